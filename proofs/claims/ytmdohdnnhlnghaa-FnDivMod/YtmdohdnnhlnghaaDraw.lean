/- The walks of the small draws: each returns within its bounds, whatever the bytes are, and writes into the cursor's block alone. -/
import Derived.Test.YtmdohdnnhlnghaaCur
import Derived.Laws.Bits128
namespace Go.Proofs.Ytmdohdnnhlnghaa
open Go.RowKit
set_option linter.unusedVariables false

theorem and255 (n : Int) : 0 ≤ bits .and .i64 n 255 ∧ bits .and .i64 n 255 ≤ 255 := by
  have h255 : (BitVec.ofInt 64 255).toNat = 2 ^ 8 - 1 := by decide
  have key : (BitVec.ofInt 64 n &&& BitVec.ofInt 64 255).toNat = (n % ((2 ^ 64 : Nat) : Int)).toNat % 2 ^ 8 := by
    rw [BitVec.toNat_and, BitVec.toNat_ofInt, h255, Nat.and_two_pow_sub_one_eq_mod]
  have e : bits .and .i64 n 255 = n % 256 := by
    show IntKind.i64.wrap ((BitVec.ofInt 64 n &&& BitVec.ofInt 64 255).toNat : Nat) = n % 256
    rw [key, IntKind.wrap_i64]
    omega
  omega

set_option maxHeartbeats 1000000 in
theorem byteD (B : Nat) (a : Option Addr) (len cap : Nat) (w : World) (hc : Cur B a len cap w) :
    Calls Try.prog 46 #[.pointer (some ⟨B, 0, none⟩)] w fun e w' => ∃ x : Nat, x ≤ 255 ∧ e = .returned (.int .i64 x) ∧ Cur B a len cap w' ∧ Only B w w' := by
  obtain ⟨hB, c0, ⟨i, hi, c1⟩, ⟨h, c2⟩, f1, f2, row, hle, hcp⟩ := id hc
  go_enter Try.func46, Try.ntmps46
  go_wp2
  have hcur := hc.set2 (wrap64 (wrap64 (h * 6364136223846793005) + 1442695040888963407))
  have hon : Only B w _ := (Only.refl B w).setCell (p := ⟨B, 2, none⟩) rfl (.int .i64 (wrap64 (wrap64 (h * 6364136223846793005) + 1442695040888963407)))
  generalize wrap64 (wrap64 (h * 6364136223846793005) + 1442695040888963407) = v at *
  generalize w.setCell ⟨B, 2, none⟩ (.int .i64 v) = w1 at *
  have HON := hide hon
  have HC := hide hcur
  clear hc hB c0 c1 c2 f1 f2 row hon hi
  obtain ⟨hB, c0, ⟨i, hi, c1⟩, ⟨h1, c2⟩, f1, f2, row, _, _⟩ := hcur
  go_quiet (fail)
  go_wp2
  obtain ⟨hx0, hx1⟩ := and255 (bits BinOp.xor IntKind.i64 (h1 / 8589934592) (h1 / 35184372088832))
  generalize bits BinOp.and IntKind.i64 (bits BinOp.xor IntKind.i64 (h1 / 8589934592) (h1 / 35184372088832)) 255 = x at *
  have HON2 : Hid (Only B w (w1.drewN nq)) := hide (HON.out.drewN nq)
  have hc2 := HC.out.drewN nq
  generalize w1.drewN nq = w2 at *
  clear HON HC hB c0 c1 c2 f1 f2 row hi
  have HC2 := hide hc2
  obtain ⟨hB, c0, ⟨i, hi, c1⟩, ⟨h2, c2⟩, f1, f2, row, _, _⟩ := hc2
  by_cases hil : (i : Int) < (len : Int)
  · rcases row with h | ⟨b, off, rfl, hb, hr⟩
    · omega
    obtain ⟨z, hz, hcz⟩ := hr i (by omega)
    have hcz' : w2.cell? ⟨b, off + i, none⟩ = some (.int .u8 z) := hcz
    clear hr hcz
    go_quiet (fail)
    go_wp2
    go_quiet (fail)
    go_wp2
    go_ret
    obtain ⟨q0, q1⟩ := and255 (x + z)
    generalize bits BinOp.and IntKind.i64 (x + z) 255 = y at *
    have hcs := fun m => (HC2.out.drewN m).set1 (i + 1) (by omega)
    have ei : ((i + 1 : Nat) : Int) = (i : Int) + 1 := rfl
    simp only [ei] at hcs
    refine ⟨y.toNat, by omega, ret_int (by omega), hcs _, (HON2.out.drewN _).setCell rfl _⟩
  · go_quiet (fail)
    go_wp2
    go_ret
    refine ⟨x.toNat, by omega, ret_int (by omega), HC2.out.drewN _, HON2.out.drewN _⟩

/-- a number drawn below n (0 where n isn't above 0) -/
def InBelow (n : Int) (x : Int) : Prop := (n ≤ 0 ∧ x = 0) ∨ (0 ≤ x ∧ x < n)

set_option maxHeartbeats 1000000 in
theorem belowD (B : Nat) (a : Option Addr) (len cap : Nat) (w : World) (hc : Cur B a len cap w) (n : Int) (hn : n ≤ 9223372036854775807) :
    Calls Try.prog 30 #[.pointer (some ⟨B, 0, none⟩), .int .i64 n] w fun e w' => ∃ x : Int, InBelow n x ∧ e = .returned (.int .i64 x) ∧ Cur B a len cap w' ∧ Only B w w' := by
  have HC := hide hc
  clear hc
  by_cases h0 : n ≤ 0
  · go_enter Try.func30, Try.ntmps30
    go_wp2
    go_ret
    exact ⟨0, .inl ⟨h0, rfl⟩, rfl, HC.out, Only.refl _ _⟩
  by_cases h1 : n ≤ 256
  · go_enter Try.func30, Try.ntmps30
    go_wp2_with fail
    refine (byteD B a len cap _ HC.out).mono ?_
    rintro e w1 ⟨x, hx, rfl, hc1, ho1⟩
    have HC1 := hide hc1
    have HO1 := hide ho1
    clear hc1 ho1
    go_wp2
    go_ret
    have := Int.emod_nonneg (x : Int) (show n ≠ 0 by omega)
    have := Int.emod_lt_of_pos (x : Int) (show 0 < n by omega)
    exact ⟨(x : Int) % n, .inr ⟨by omega, by omega⟩, rfl, HC1.out, HO1.out⟩
  · go_enter Try.func30, Try.ntmps30
    go_wp2_with fail
    refine (byteD B a len cap _ HC.out).mono ?_
    rintro e w1 ⟨x1, hx1, rfl, hc1, ho1⟩
    have HC1 := hide hc1
    have HO1 := hide ho1
    clear hc1 ho1
    go_wp2_with fail
    refine (byteD B a len cap _ HC1.out).mono ?_
    rintro e w2 ⟨x2, hx2, rfl, hc1, ho1⟩
    have HC2 := hide hc1
    have HO2 := hide ho1
    clear hc1 ho1
    go_wp2_with fail
    refine (byteD B a len cap _ HC2.out).mono ?_
    rintro e w3 ⟨x3, hx3, rfl, hc1, ho1⟩
    have HC3 := hide hc1
    have HO3 := hide ho1
    clear hc1 ho1
    go_wp2_with fail
    refine (byteD B a len cap _ HC3.out).mono ?_
    rintro e w4 ⟨x4, hx4, rfl, hc1, ho1⟩
    have HC4 := hide hc1
    have HO4 := hide ho1
    clear hc1 ho1
    go_wp2
    go_ret
    have := Int.emod_nonneg ((x1 : Int) * 16777216 + (x2 : Int) * 65536 + (x3 : Int) * 256 + x4) (show n ≠ 0 by omega)
    have := Int.emod_lt_of_pos ((x1 : Int) * 16777216 + (x2 : Int) * 65536 + (x3 : Int) * 256 + x4) (show 0 < n by omega)
    exact ⟨_, .inr ⟨by assumption, by assumption⟩, rfl, HC4.out, ((HO1.out.trans HO2.out).trans HO3.out).trans HO4.out⟩

/-- a row of bytes of the argument -/
def Row (a : Option Addr) (len cap : Nat) (w : World) : Prop := Bytes w.heap.size a len w ∧ len ≤ cap ∧ cap ≤ 9223372036854775807

theorem Cur.new {a : Option Addr} {len cap : Nat} (w : World) (v : Int) (hr : Bytes w.heap.size a len w) (hle : len ≤ cap) (hcp : cap ≤ 9223372036854775807) :
    Cur w.heap.size a len cap (w.alloc (.cells #[.slice a len cap, .int .i64 0, .int .i64 v] 48)) := by
  refine ⟨by simp, by simp [go_sem], ⟨0, Nat.zero_le _, by simp [go_sem]⟩, ⟨v, by simp [go_sem]⟩, by simp [go_sem], by simp [go_sem], ?_, hle, hcp⟩
  rcases hr with h | ⟨b, off, rfl, hb, hc⟩
  · exact .inl h
  · refine .inr ⟨b, off, rfl, hb, fun j hj => ?_⟩
    obtain ⟨z, hz, hcz⟩ := hc j hj
    exact ⟨z, hz, (World.cell?_of_block (w := w) (Below.heap_alloc _ _ _ hb)).trans hcz⟩

set_option maxHeartbeats 1000000 in
theorem newD (a : Option Addr) (len cap : Nat) (w : World) (hr : Row a len cap w) :
    Calls Try.prog 17 #[.slice a len cap] w fun e w' => e = .returned (.pointer (some ⟨w.heap.size, 0, none⟩)) ∧ Cur w.heap.size a len cap w' ∧ Below w.heap.size w w' := by
  obtain ⟨row, hle, hcp⟩ := hr
  have HR := hide row
  clear row
  go_enter Try.func17, Try.ntmps17
  go_wp2
  go_loop [3, 4] (fun h i => ∃ (k : Nat) (v : Int), k ≤ len ∧ i = .int .i64 k ∧ h = .int .i64 v) (fun _ i => len - (intOf i).toNat)
  case atStart => exact ⟨0, _, Nat.zero_le _, rfl, rfl⟩
  case round =>
    obtain ⟨k, v, hk, rfl, rfl⟩ := hrel
    by_cases hlt : (k : Int) < (len : Int)
    · by_cases h4 : (k : Int) < 4000
      · rcases HR.out with h | ⟨b, off, rfl, hb, hrow⟩
        · omega
        obtain ⟨z, hz, hcz⟩ := hrow k (by omega)
        clear hrow
        go_wp2
        exact ⟨⟨k + 1, _, by omega, by go_num, rfl⟩, by simp [intOf]; omega⟩
      · have d4 : decide ((k : Int) < 4000) = false := by simp; omega
        go_wp2
        go_ret
        exact ⟨rfl, Cur.new w v HR.out hle hcp, (Below.refl _ _).alloc (Nat.le_refl _) _⟩
    · have d4 : decide ((k : Int) < (len : Int)) = false := by simp; omega
      go_wp2
      go_ret
      exact ⟨rfl, Cur.new w v HR.out hle hcp, (Below.refl _ _).alloc (Nat.le_refl _) _⟩

theorem onceD (B : Nat) (a : Option Addr) (len cap : Nat) (w : World) (hc : Cur B a len cap w) (n : Int) (hn : n ≤ 9223372036854775807) :
    Calls Try.prog 26 #[.pointer (some ⟨B, 0, none⟩), .int .i64 n] w fun e w' => ∃ x : Bool, e = .returned (.bool x) ∧ Cur B a len cap w' ∧ Only B w w' := by
  have HC := hide hc
  clear hc
  go_enter Try.func26, Try.ntmps26
  go_wp2_with fail
  refine (belowD B a len cap _ HC.out n hn).mono ?_
  rintro e w1 ⟨x, hx, rfl, hc1, ho1⟩
  have HX := hide hx
  have HC1 := hide hc1
  have HO1 := hide ho1
  clear hc1 ho1 hx
  go_wp2
  go_ret
  exact ⟨_, rfl, HC1.out, HO1.out⟩

set_option maxHeartbeats 1000000 in
theorem pickIntD (B : Nat) (a : Option Addr) (len cap : Nat) (w : World) (hc : Cur B a len cap w) (L n : Nat) (P : Int → Prop) (hL : L < w.heap.size) (hLB : L ≠ B) (hn0 : 0 < n) (hn : n ≤ 1000)
    (hl : ∀ j, j < n → ∃ z : Int, P z ∧ w.cell? ⟨L, j, none⟩ = some (.int .i64 z)) :
    Calls Try.prog 53 #[.pointer (some ⟨B, 0, none⟩), .slice (some ⟨L, 0, none⟩) n n] w fun e w' => ∃ x : Int, P x ∧ e = .returned (.int .i64 x) ∧ Cur B a len cap w' ∧ Only B w w' := by
  have HC := hide hc
  have HL := hide hl
  clear hc hl
  go_enter Try.func53, Try.ntmps53
  go_wp2_with fail
  refine (belowD B a len cap _ HC.out n (by omega)).mono ?_
  rintro e w1 ⟨x, hx, rfl, hc1, ho1⟩
  have hx0 : 0 ≤ x ∧ x < n := by rcases hx with h | h <;> omega
  obtain ⟨hx1, hx2⟩ := hx0
  obtain ⟨k, rfl⟩ := Int.eq_ofNat_of_zero_le hx1
  obtain ⟨z, hz, hcz⟩ := HL.out k (by omega)
  have hcz1 : w1.cell? ⟨L, k, none⟩ = some (.int .i64 z) := (ho1.cell (p := ⟨L, k, none⟩) hL hLB).trans hcz
  have HC1 := hide hc1
  have HO1 := hide ho1
  have HZ := hide hz
  clear hc1 ho1 hx hcz hz
  go_wp2
  go_ret
  exact ⟨z, HZ.out, rfl, HC1.out, HO1.out⟩

theorem new_list (w : World) (cs : Array Value) (T : TypeId) (Q : Value → Prop) (h : ∀ v ∈ cs.toList, Q v) (j : Nat) (hj : j < cs.size) : ∃ v, Q v ∧ (w.alloc (.cells cs T)).cell? ⟨w.heap.size, j, none⟩ = some v := by
  refine ⟨cs[j], h _ (by simp), ?_⟩
  simp [go_sem, hj]
theorem new_ints (w : World) (cs : Array Value) (T : TypeId) (P : Int → Prop) (h : ∀ v ∈ cs.toList, ∃ z, P z ∧ v = .int .i64 z) (n : Nat) (hn : n ≤ cs.size) : ∀ j, j < n → ∃ z : Int, P z ∧ (w.alloc (.cells cs T)).cell? ⟨w.heap.size, j, none⟩ = some (.int .i64 z) := by
  intro j hj
  obtain ⟨v, ⟨z, hz, rfl⟩, hc⟩ := new_list w cs T _ h j (by omega)
  exact ⟨z, hz, hc⟩
theorem new_strs (w : World) (cs : Array Value) (T : TypeId) (P : ByteArray → Prop) (h : ∀ v ∈ cs.toList, ∃ z, P z ∧ v = .string z) (n : Nat) (hn : n ≤ cs.size) : ∀ j, j < n → ∃ z : ByteArray, P z ∧ (w.alloc (.cells cs T)).cell? ⟨w.heap.size, j, none⟩ = some (.string z) := by
  intro j hj
  obtain ⟨v, ⟨z, hz, rfl⟩, hc⟩ := new_list w cs T _ h j (by omega)
  exact ⟨z, hz, hc⟩

end Go.Proofs.Ytmdohdnnhlnghaa
