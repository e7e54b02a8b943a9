/- The walk of the draw of a text that is bent: it is at most one byte longer. -/
import Derived.Test.YthjglbimkfajlaaText
import Derived.Deep.RegionWith
namespace Go.Proofs.Ythjglbimkfajlaa
open Go.RowKit
set_option linter.unusedVariables false

/-- a text picked off a list that was just laid, behind a draw of the order -/
theorem pickNew (B : Nat) (a : Option Addr) (len cap : Nat) (W : World) (hc : Cur B a len cap W) (cs : Array Value) (n : Nat) (hn0 : 0 < n) (hn : n ≤ 1000) (hsz : n ≤ cs.size) (hl : ∀ v ∈ cs.toList, ∃ z : ByteArray, z.size ≤ 1 ∧ v = .string z) :
    Calls Try.prog 44 #[.pointer (some ⟨B, 0, none⟩), .slice (some ⟨W.heap.size, 0, none⟩) n n] (W.alloc (.cells cs 9)).drew fun e w' => ∃ x : ByteArray, x.size ≤ 1 ∧ e = .returned (.string x) ∧ Cur B a len cap w' ∧ Only B W w' := by
  have h1 : Cur B a len cap (W.alloc (.cells cs 9)).drew := (hc.alloc (.cells cs 9)).drewN 1
  have h2 : ∀ j, j < n → ∃ z : ByteArray, z.size ≤ 1 ∧ (W.alloc (.cells cs 9)).drew.cell? ⟨W.heap.size, j, none⟩ = some (.string z) := new_strs W cs 9 (fun z => z.size ≤ 1) hl n hsz
  have hB := hc.hB
  have hs : (W.alloc (.cells cs 9)).drew.heap.size = W.heap.size + 1 := by show (W.alloc (.cells cs 9)).heap.size = _; simp
  refine (pickD B a len cap _ h1 W.heap.size n (fun z => z.size ≤ 1) (by omega) (by omega) hn0 hn h2).mono ?_
  rintro e w' ⟨x, hx, he, hc', ho'⟩
  exact ⟨x, hx, he, hc', (((Only.refl B W).alloc (.cells cs 9)).drewN 1).trans ho'⟩

set_option maxRecDepth 100000 in
set_option maxHeartbeats 4000000 in
theorem bentD (B : Nat) (a : Option Addr) (len cap : Nat) (w : World) (hc : Cur B a len cap w) (s : ByteArray) (hs : s.size ≤ 1000) :
    Calls Try.prog 42 #[.pointer (some ⟨B, 0, none⟩), .string s] w fun e w' => ∃ s' : ByteArray, s'.size ≤ 1001 ∧ e = .returned (.string s') ∧ Cur B a len cap w' ∧ Only B w w' := by
  have HC := hide hc
  clear hc
  go_enter Try.func42, Try.ntmps42
  go_wp2_with fail
  refine (belowD B a len cap _ HC.out _ (by omega)).mono ?_
  rintro e w1 ⟨x, hx, rfl, hc1, ho1⟩
  have hx' : 0 ≤ x ∧ x ≤ s.size := by rcases hx with h | h <;> omega
  obtain ⟨i, rfl⟩ := Int.eq_ofNat_of_zero_le hx'.1
  have hi : i ≤ s.size := by omega
  have HC1 := hide hc1
  have HO1 := hide ho1
  clear hc1 ho1 hx hx'
  go_wp2_with fail
  refine (belowD B a len cap _ HC1.out _ (by omega)).mono ?_
  rintro e w2 ⟨d, hd, rfl, hc2, ho2⟩
  have hd' : 0 ≤ d ∧ d < 10 := by rcases hd with h | h <;> omega
  have HC2 := hide hc2
  have HO2 : Hid (Only B w w2) := hide (HO1.out.trans ho2)
  clear hc2 ho2 hd HC1 HO1 HC
  by_cases h0 : d = 0
  · have b0 : (d == 0) = true := by simp [h0]
    clear h0
    go_wp2
    go_ret
    exact ⟨_, by rw [ByteArray.size_extract]; omega, rfl, HC2.out, HO2.out⟩
  have b0 : (d == 0) = false := by simp only [beq_eq_false_iff_ne]; omega
  by_cases h1 : d = 1
  · have b1 : (d == 1) = true := by simp [h1]
    clear h1
    go_wp2
    have hl : ∀ v ∈ (#[.string ⟨#[48]⟩, .string ⟨#[32]⟩, .string ⟨#[255]⟩, .string ⟨#[35]⟩, .string ⟨#[10]⟩, .string ⟨#[97]⟩, .string ⟨#[58]⟩, .string ⟨#[61]⟩, .string ⟨#[41]⟩, .string ⟨#[94]⟩] : Array Value).toList, ∃ z : ByteArray, z.size ≤ 1 ∧ v = .string z := by
      simp only [List.forall_mem_cons, List.not_mem_nil, false_implies, implies_true, and_true]
      exact ⟨⟨_, by decide, rfl⟩, ⟨_, by decide, rfl⟩, ⟨_, by decide, rfl⟩, ⟨_, by decide, rfl⟩, ⟨_, by decide, rfl⟩, ⟨_, by decide, rfl⟩, ⟨_, by decide, rfl⟩, ⟨_, by decide, rfl⟩, ⟨_, by decide, rfl⟩, ⟨_, by decide, rfl⟩⟩
    have HP := hide (pickNew B a len cap w2 HC2.out _ 10 (by omega) (by omega) (by decide) hl)
    clear hl
    go_region_with (go_at_call 44; refine HP.out.mono ?_; rintro e w4 ⟨z, hz, rfl, hc4, ho4⟩)
    all_goals go_wp2
    all_goals go_ret
    all_goals exact ⟨_, by rw [ByteArray.size_append, ByteArray.size_append, ByteArray.size_extract, ByteArray.size_extract]; omega, rfl, hc4, HO2.out.trans ho4⟩
  have b1 : (d == 1) = false := by simp only [beq_eq_false_iff_ne]; omega
  by_cases h2 : d = 2
  · have b2 : (d == 2) = true := by simp [h2]
    clear h2
    by_cases hil : (i : Int) < (s.size : Int)
    · have hil2 : (i : Int) + 1 ≤ (s.size : Int) := by omega
      have hwr : IntKind.i64.wrap ((i : Int) + 1) = (i : Int) + 1 := wrap_small _ (by omega) (by omega)
      have hsl : ∀ W : World, (Instr.slice 9 (.string s) (some (.int .i64 ((i : Int) + 1))) none none).run Try.prog W = .ok (.string (s.extract (i + 1) s.size)) W := fun W =>
        run_slice_string_l (P := Try.prog) W 9 s Try.underlying9 .i64 ((i : Int) + 1) (by omega) (by omega)
      go_wp2
      have hl : ∀ v ∈ (#[.string ⟨#[48]⟩, .string ⟨#[65]⟩, .string ⟨#[0]⟩, .string ⟨#[57]⟩, .string ⟨#[40]⟩, .string ⟨#[45]⟩] : Array Value).toList, ∃ z : ByteArray, z.size ≤ 1 ∧ v = .string z := by
        simp only [List.forall_mem_cons, List.not_mem_nil, false_implies, implies_true, and_true]
        exact ⟨⟨_, by decide, rfl⟩, ⟨_, by decide, rfl⟩, ⟨_, by decide, rfl⟩, ⟨_, by decide, rfl⟩, ⟨_, by decide, rfl⟩, ⟨_, by decide, rfl⟩⟩
      have HP := hide (pickNew B a len cap w2 HC2.out _ 6 (by omega) (by omega) (by decide) hl)
      clear hl
      go_region_with (go_at_call 44; refine HP.out.mono ?_; rintro e w4 ⟨z, hz, rfl, hc4, ho4⟩)
      all_goals go_wp2
      all_goals go_ret
      all_goals exact ⟨_, by rw [ByteArray.size_append, ByteArray.size_append, ByteArray.size_extract, ByteArray.size_extract]; omega, rfl, hc4, HO2.out.trans ho4⟩
    · go_wp2
      go_ret
      exact ⟨_, by omega, rfl, HC2.out, HO2.out⟩
  have b2 : (d == 2) = false := by simp only [beq_eq_false_iff_ne]; omega
  go_wp2
  go_ret
  exact ⟨_, by omega, rfl, HC2.out, HO2.out⟩
end Go.Proofs.Ythjglbimkfajlaa
