/- The walk of DrawGcd: two ints, whatever the bytes are. -/
import Derived.Test.YtkfiidldappdcaaDraw
namespace Go.Proofs.Ytkfiidldappdcaa
open Go.RowKit
set_option linter.unusedVariables false

set_option maxHeartbeats 1000000 in
theorem drawGcd (a : Option Addr) (len cap : Nat) (w : World) (hr : Row a len cap w) :
    Calls Try.prog 16 #[.slice a len cap] w fun e w' => ∃ x y : Int, (-9223372036854775808 ≤ x ∧ x ≤ 9223372036854775807) ∧ (-9223372036854775808 ≤ y ∧ y ≤ 9223372036854775807) ∧ e = .returned (.tuple #[.int .i64 x, .int .i64 y]) ∧ Below w.heap.size w w' := by
  have HR := hide hr
  clear hr
  go_enter Try.func16, Try.ntmps16
  go_wp2_with fail
  refine (newD a len cap _ HR.out).mono ?_
  rintro e w1 ⟨rfl, hc1, hb1⟩
  have HC1 := hide hc1
  have HB1 := hide hb1
  clear hc1 hb1
  go_wp2_with fail
  refine (numD _ a len cap _ HC1.out).mono ?_
  rintro e w2 ⟨x, hx, rfl, hc2, ho2⟩
  have HC2 := hide hc2
  have HO2 := hide ho2
  have HX := hide hx
  clear hc2 ho2 hx
  go_wp2_with fail
  refine (numD _ a len cap _ HC2.out).mono ?_
  rintro e w3 ⟨y, hy, rfl, hc3, ho3⟩
  have HO3 := hide ho3
  have HY := hide hy
  clear hc3 ho3 hy
  go_wp2
  go_ret2
  exact ⟨x, y, HX.out, HY.out, rfl, HB1.out.trans ((HO2.out.trans HO3.out).below (Nat.le_refl _) (Nat.le_of_lt HC1.out.hB))⟩

theorem row_of {w : World} {a : Option Addr} {len cap : Nat} {zs : List Int}
    (h : (a = none ∧ len = 0 ∧ cap = 0 ∧ zs = []) ∨ ∃ x, a = some x ∧ len ≤ cap ∧ cap ≤ maxLen ∧ zs.length = cap ∧ (∀ i, i < zs.length → w.cell? (x.add i) = some (.int .u8 (zs.getD i 0))) ∧ ∀ n ∈ zs, (Lit.int .u8 n).wf = true) : Row a len cap w := by
  rcases h with ⟨rfl, rfl, rfl, rfl⟩ | ⟨x, rfl, hl, hm, hz, hcell, hwz⟩
  · exact ⟨.inl rfl, Nat.le_refl _, by omega⟩
  · unfold maxLen at hm
    refine ⟨?_, hl, by omega⟩
    by_cases h0 : len = 0
    · exact .inl h0
    obtain ⟨b, off, spot⟩ := x
    have hc := hcell 0 (by omega)
    have hspot : spot = none := by simpa [Addr.add] using World.cell?_spot hc
    subst hspot
    have hb : b < w.heap.size := by
      have hc0 : w.cell? ⟨b, off, none⟩ = some (.int .u8 (zs.getD 0 0)) := by simpa [Addr.add] using hc
      rcases Nat.lt_or_ge b w.heap.size with h | h
      · exact h
      · have : w.heap[b]? = none := by simp; omega
        simp [World.cell?, this] at hc0
    refine .inr ⟨b, off, rfl, hb, fun j hj => ?_⟩
    have hcj : w.cell? ⟨b, off + j, none⟩ = some (.int .u8 (zs.getD j 0)) := by
      have h1 := hcell j (by omega)
      by_cases hj0 : j = 0
      · subst hj0; simpa [Addr.add] using h1
      · simpa [Addr.add, hj0] using h1
    have hmem : zs.getD j 0 ∈ zs := by
      have hjl : j < zs.length := by omega
      have e : zs.getD j 0 = zs[j] := by simp [hjl]
      rw [e]; exact List.getElem_mem _
    have hwf := hwz (zs.getD j 0) hmem
    have hbd : 0 ≤ zs.getD j 0 ∧ zs.getD j 0 ≤ 255 := by simpa [Lit.wf, IntKind.min, IntKind.max, IntKind.signed, IntKind.bits] using hwf
    refine ⟨(zs.getD j 0).toNat, by omega, ?_⟩
    rw [hcj, Int.toNat_of_nonneg hbd.1]
end Go.Proofs.Ytkfiidldappdcaa
