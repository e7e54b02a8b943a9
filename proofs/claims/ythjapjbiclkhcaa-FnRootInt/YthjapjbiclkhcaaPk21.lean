/- My texts Draw, DrW, in this order. -/
import Derived.Test.YthjapjbiclkhcaaCur
import Derived.Laws.Bits128
import Derived.Test.YthjapjbiclkhcaaPk01
/- The walks of the small draws: each returns within its bounds, whatever the bytes are, and writes into the cursor's block alone. -/
namespace Go.Proofs.Ythjapjbiclkhcaa
open Go.RowKit
set_option linter.unusedVariables false

theorem and255 (n : Int) : 0 ≤ bits .and .i64 n 255 ∧ bits .and .i64 n 255 ≤ 255 := by
  have h255 : (BitVec.ofInt 64 255).toNat = 2 ^ 8 - 1 := by decide
  have key : (BitVec.ofInt 64 n &&& BitVec.ofInt 64 255).toNat = (n % ((2 ^ 64 : Nat) : Int)).toNat % 2 ^ 8 := by
    rw [BitVec.toNat_and, BitVec.toNat_ofInt, h255, Nat.and_two_pow_sub_one_eq_mod]
  have e : bits .and .i64 n 255 = n % 256 := by
    show IntKind.i64.wrap ((BitVec.ofInt 64 n &&& BitVec.ofInt 64 255).toNat : Nat) = n % 256
    rw [key, IntKind.wrap_i64]
    omega
  omega

set_option maxHeartbeats 1000000 in
theorem byteD (B : Nat) (a : Option Addr) (len cap : Nat) (w : World) (hc : Cur B a len cap w) :
    Calls Try.prog 51 #[.pointer (some ⟨B, 0, none⟩)] w fun e w' => ∃ x : Nat, x ≤ 255 ∧ e = .returned (.int .i64 x) ∧ Cur B a len cap w' ∧ Only B w w' := by
  obtain ⟨hB, c0, ⟨i, hi, c1⟩, ⟨h, c2⟩, f1, f2, row, hle, hcp⟩ := id hc
  go_enter Try.func51, Try.ntmps51
  go_wp2
  have hcur := hc.set2 (wrap64 (wrap64 (h * 6364136223846793005) + 1442695040888963407))
  have hon : Only B w _ := (Only.refl B w).setCell (p := ⟨B, 2, none⟩) rfl (.int .i64 (wrap64 (wrap64 (h * 6364136223846793005) + 1442695040888963407)))
  generalize wrap64 (wrap64 (h * 6364136223846793005) + 1442695040888963407) = v at *
  generalize w.setCell ⟨B, 2, none⟩ (.int .i64 v) = w1 at *
  have HON := hide hon
  have HC := hide hcur
  clear hc hB c0 c1 c2 f1 f2 row hon hi
  obtain ⟨hB, c0, ⟨i, hi, c1⟩, ⟨h1, c2⟩, f1, f2, row, _, _⟩ := hcur
  go_quiet (fail)
  go_wp2
  obtain ⟨hx0, hx1⟩ := and255 (bits BinOp.xor IntKind.i64 (h1 / 8589934592) (h1 / 35184372088832))
  generalize bits BinOp.and IntKind.i64 (bits BinOp.xor IntKind.i64 (h1 / 8589934592) (h1 / 35184372088832)) 255 = x at *
  have HON2 : Hid (Only B w (w1.drewN nq)) := hide (HON.out.drewN nq)
  have hc2 := HC.out.drewN nq
  generalize w1.drewN nq = w2 at *
  clear HON HC hB c0 c1 c2 f1 f2 row hi
  have HC2 := hide hc2
  obtain ⟨hB, c0, ⟨i, hi, c1⟩, ⟨h2, c2⟩, f1, f2, row, _, _⟩ := hc2
  by_cases hil : (i : Int) < (len : Int)
  · rcases row with h | ⟨b, off, rfl, hb, hr⟩
    · omega
    obtain ⟨z, hz, hcz⟩ := hr i (by omega)
    have hcz' : w2.cell? ⟨b, off + i, none⟩ = some (.int .u8 z) := hcz
    clear hr hcz
    go_quiet (fail)
    go_wp2
    go_quiet (fail)
    go_wp2
    go_ret
    obtain ⟨q0, q1⟩ := and255 (x + z)
    generalize bits BinOp.and IntKind.i64 (x + z) 255 = y at *
    have hcs := fun m => (HC2.out.drewN m).set1 (i + 1) (by omega)
    have ei : ((i + 1 : Nat) : Int) = (i : Int) + 1 := rfl
    simp only [ei] at hcs
    refine ⟨y.toNat, by omega, ret_int (by omega), hcs _, (HON2.out.drewN _).setCell rfl _⟩
  · go_quiet (fail)
    go_wp2
    go_ret
    refine ⟨x.toNat, by omega, ret_int (by omega), HC2.out.drewN _, HON2.out.drewN _⟩

/-- a number drawn below n (0 where n isn't above 0) -/
def InBelow (n : Int) (x : Int) : Prop := (n ≤ 0 ∧ x = 0) ∨ (0 ≤ x ∧ x < n)

set_option maxHeartbeats 1000000 in
theorem belowD (B : Nat) (a : Option Addr) (len cap : Nat) (w : World) (hc : Cur B a len cap w) (n : Int) (hn : n ≤ 9223372036854775807) :
    Calls Try.prog 22 #[.pointer (some ⟨B, 0, none⟩), .int .i64 n] w fun e w' => ∃ x : Int, InBelow n x ∧ e = .returned (.int .i64 x) ∧ Cur B a len cap w' ∧ Only B w w' := by
  have HC := hide hc
  clear hc
  by_cases h0 : n ≤ 0
  · go_enter Try.func22, Try.ntmps22
    go_wp2
    go_ret
    exact ⟨0, .inl ⟨h0, rfl⟩, rfl, HC.out, Only.refl _ _⟩
  by_cases h1 : n ≤ 256
  · go_enter Try.func22, Try.ntmps22
    go_wp2_with fail
    refine (byteD B a len cap _ HC.out).mono ?_
    rintro e w1 ⟨x, hx, rfl, hc1, ho1⟩
    have HC1 := hide hc1
    have HO1 := hide ho1
    clear hc1 ho1
    go_wp2
    go_ret
    have := Int.emod_nonneg (x : Int) (show n ≠ 0 by omega)
    have := Int.emod_lt_of_pos (x : Int) (show 0 < n by omega)
    exact ⟨(x : Int) % n, .inr ⟨by omega, by omega⟩, rfl, HC1.out, HO1.out⟩
  · go_enter Try.func22, Try.ntmps22
    go_wp2_with fail
    refine (byteD B a len cap _ HC.out).mono ?_
    rintro e w1 ⟨x1, hx1, rfl, hc1, ho1⟩
    have HC1 := hide hc1
    have HO1 := hide ho1
    clear hc1 ho1
    go_wp2_with fail
    refine (byteD B a len cap _ HC1.out).mono ?_
    rintro e w2 ⟨x2, hx2, rfl, hc1, ho1⟩
    have HC2 := hide hc1
    have HO2 := hide ho1
    clear hc1 ho1
    go_wp2_with fail
    refine (byteD B a len cap _ HC2.out).mono ?_
    rintro e w3 ⟨x3, hx3, rfl, hc1, ho1⟩
    have HC3 := hide hc1
    have HO3 := hide ho1
    clear hc1 ho1
    go_wp2_with fail
    refine (byteD B a len cap _ HC3.out).mono ?_
    rintro e w4 ⟨x4, hx4, rfl, hc1, ho1⟩
    have HC4 := hide hc1
    have HO4 := hide ho1
    clear hc1 ho1
    go_wp2
    go_ret
    have := Int.emod_nonneg ((x1 : Int) * 16777216 + (x2 : Int) * 65536 + (x3 : Int) * 256 + x4) (show n ≠ 0 by omega)
    have := Int.emod_lt_of_pos ((x1 : Int) * 16777216 + (x2 : Int) * 65536 + (x3 : Int) * 256 + x4) (show 0 < n by omega)
    exact ⟨_, .inr ⟨by assumption, by assumption⟩, rfl, HC4.out, ((HO1.out.trans HO2.out).trans HO3.out).trans HO4.out⟩

/-- a row of bytes of the argument -/
def Row (a : Option Addr) (len cap : Nat) (w : World) : Prop := Bytes w.heap.size a len w ∧ len ≤ cap ∧ cap ≤ 9223372036854775807

theorem Cur.new {a : Option Addr} {len cap : Nat} (w : World) (v : Int) (hr : Bytes w.heap.size a len w) (hle : len ≤ cap) (hcp : cap ≤ 9223372036854775807) :
    Cur w.heap.size a len cap (w.alloc (.cells #[.slice a len cap, .int .i64 0, .int .i64 v] 71)) := by
  refine ⟨by simp, by simp [go_sem], ⟨0, Nat.zero_le _, by simp [go_sem]⟩, ⟨v, by simp [go_sem]⟩, by simp [go_sem], by simp [go_sem], ?_, hle, hcp⟩
  rcases hr with h | ⟨b, off, rfl, hb, hc⟩
  · exact .inl h
  · refine .inr ⟨b, off, rfl, hb, fun j hj => ?_⟩
    obtain ⟨z, hz, hcz⟩ := hc j hj
    exact ⟨z, hz, (World.cell?_of_block (w := w) (Below.heap_alloc _ _ _ hb)).trans hcz⟩

set_option maxHeartbeats 1000000 in
theorem newD (a : Option Addr) (len cap : Nat) (w : World) (hr : Row a len cap w) :
    Calls Try.prog 21 #[.slice a len cap] w fun e w' => e = .returned (.pointer (some ⟨w.heap.size, 0, none⟩)) ∧ Cur w.heap.size a len cap w' ∧ Below w.heap.size w w' := by
  obtain ⟨row, hle, hcp⟩ := hr
  have HR := hide row
  clear row
  go_enter Try.func21, Try.ntmps21
  go_wp2
  go_loop [3, 4] (fun h i => ∃ (k : Nat) (v : Int), k ≤ len ∧ i = .int .i64 k ∧ h = .int .i64 v) (fun _ i => len - (intOf i).toNat)
  case atStart => exact ⟨0, _, Nat.zero_le _, rfl, rfl⟩
  case round =>
    obtain ⟨k, v, hk, rfl, rfl⟩ := hrel
    by_cases hlt : (k : Int) < (len : Int)
    · by_cases h4 : (k : Int) < 4000
      · rcases HR.out with h | ⟨b, off, rfl, hb, hrow⟩
        · omega
        obtain ⟨z, hz, hcz⟩ := hrow k (by omega)
        clear hrow
        go_wp2
        exact ⟨⟨k + 1, _, by omega, by go_num, rfl⟩, by simp [intOf]; omega⟩
      · have d4 : decide ((k : Int) < 4000) = false := by simp; omega
        go_wp2
        go_ret
        exact ⟨rfl, Cur.new w v HR.out hle hcp, (Below.refl _ _).alloc (Nat.le_refl _) _⟩
    · have d4 : decide ((k : Int) < (len : Int)) = false := by simp; omega
      go_wp2
      go_ret
      exact ⟨rfl, Cur.new w v HR.out hle hcp, (Below.refl _ _).alloc (Nat.le_refl _) _⟩

theorem onceD (B : Nat) (a : Option Addr) (len cap : Nat) (w : World) (hc : Cur B a len cap w) (n : Int) (hn : n ≤ 9223372036854775807) :
    Calls Try.prog 23 #[.pointer (some ⟨B, 0, none⟩), .int .i64 n] w fun e w' => ∃ x : Bool, e = .returned (.bool x) ∧ Cur B a len cap w' ∧ Only B w w' := by
  have HC := hide hc
  clear hc
  go_enter Try.func23, Try.ntmps23
  go_wp2_with fail
  refine (belowD B a len cap _ HC.out n hn).mono ?_
  rintro e w1 ⟨x, hx, rfl, hc1, ho1⟩
  have HX := hide hx
  have HC1 := hide hc1
  have HO1 := hide ho1
  clear hc1 ho1 hx
  go_wp2
  go_ret
  exact ⟨_, rfl, HC1.out, HO1.out⟩

set_option maxHeartbeats 1000000 in
theorem pickIntD (B : Nat) (a : Option Addr) (len cap : Nat) (w : World) (hc : Cur B a len cap w) (L n : Nat) (P : Int → Prop) (hL : L < w.heap.size) (hLB : L ≠ B) (hn0 : 0 < n) (hn : n ≤ 1000)
    (hl : ∀ j, j < n → ∃ z : Int, P z ∧ w.cell? ⟨L, j, none⟩ = some (.int .i64 z)) :
    Calls Try.prog 28 #[.pointer (some ⟨B, 0, none⟩), .slice (some ⟨L, 0, none⟩) n n] w fun e w' => ∃ x : Int, P x ∧ e = .returned (.int .i64 x) ∧ Cur B a len cap w' ∧ Only B w w' := by
  have HC := hide hc
  have HL := hide hl
  clear hc hl
  go_enter Try.func28, Try.ntmps28
  go_wp2_with fail
  refine (belowD B a len cap _ HC.out n (by omega)).mono ?_
  rintro e w1 ⟨x, hx, rfl, hc1, ho1⟩
  have hx0 : 0 ≤ x ∧ x < n := by rcases hx with h | h <;> omega
  obtain ⟨hx1, hx2⟩ := hx0
  obtain ⟨k, rfl⟩ := Int.eq_ofNat_of_zero_le hx1
  obtain ⟨z, hz, hcz⟩ := HL.out k (by omega)
  have hcz1 : w1.cell? ⟨L, k, none⟩ = some (.int .i64 z) := (ho1.cell (p := ⟨L, k, none⟩) hL hLB).trans hcz
  have HC1 := hide hc1
  have HO1 := hide ho1
  have HZ := hide hz
  clear hc1 ho1 hx hcz hz
  go_wp2
  go_ret
  exact ⟨z, HZ.out, rfl, HC1.out, HO1.out⟩

theorem new_list (w : World) (cs : Array Value) (T : TypeId) (Q : Value → Prop) (h : ∀ v ∈ cs.toList, Q v) (j : Nat) (hj : j < cs.size) : ∃ v, Q v ∧ (w.alloc (.cells cs T)).cell? ⟨w.heap.size, j, none⟩ = some v := by
  refine ⟨cs[j], h _ (by simp), ?_⟩
  simp [go_sem, hj]
theorem new_ints (w : World) (cs : Array Value) (T : TypeId) (P : Int → Prop) (h : ∀ v ∈ cs.toList, ∃ z, P z ∧ v = .int .i64 z) (n : Nat) (hn : n ≤ cs.size) : ∀ j, j < n → ∃ z : Int, P z ∧ (w.alloc (.cells cs T)).cell? ⟨w.heap.size, j, none⟩ = some (.int .i64 z) := by
  intro j hj
  obtain ⟨v, ⟨z, hz, rfl⟩, hc⟩ := new_list w cs T _ h j (by omega)
  exact ⟨z, hz, hc⟩
theorem new_strs (w : World) (cs : Array Value) (T : TypeId) (P : ByteArray → Prop) (h : ∀ v ∈ cs.toList, ∃ z, P z ∧ v = .string z) (n : Nat) (hn : n ≤ cs.size) : ∀ j, j < n → ∃ z : ByteArray, P z ∧ (w.alloc (.cells cs T)).cell? ⟨w.heap.size, j, none⟩ = some (.string z) := by
  intro j hj
  obtain ⟨v, ⟨z, hz, rfl⟩, hc⟩ := new_list w cs T _ h j (by omega)
  exact ⟨z, hz, hc⟩

end Go.Proofs.Ythjapjbiclkhcaa

/- The walks of draws of words and bits, and what a draw leaves as it was. -/
namespace Go.Proofs.Ythjapjbiclkhcaa
open Go.RowKit
set_option linter.unusedVariables false

theorem Only.grown {B : Nat} {w w' : World} (h : Only B w w') : w.grownBy w' (some B) := ⟨h.os, h.tape, h.output, h.size, fun k hk hn => h.block k hk (fun e => hn (by rw [e]))⟩
theorem Only.grow {B : Nat} {w wr w5 : World} {r : Option Nat} (h : Only B w wr) (hg : wr.grownBy w5 r) (hr : ∀ k, r = some k → w.heap.size ≤ k) : Only B w w5 :=
  ⟨hg.os.trans h.os, hg.tape.trans h.tape, hg.output.trans h.output, Nat.le_trans h.size hg.size, fun k hk hn => (hg.block k (Nat.lt_of_lt_of_le hk h.size) (fun e => by have := hr k e.symm; omega)).trans (h.block k hk hn)⟩
theorem Only.bel {B : Nat} {w wr w5 : World} (h : Only B w wr) (hb : Below wr.heap.size wr w5) : Only B w w5 :=
  h.grow (grown_of_below hb) (fun k e => by cases e)
theorem below_of_grown {N : Nat} {w w' : World} {r : Option Nat} (hg : w.grownBy w' r) (hr : ∀ k, r = some k → N ≤ k) (hN : N ≤ w.heap.size) : Below N w w' :=
  ⟨hg.os, hg.tape, hg.output, hg.size, fun k hk => hg.block k (by omega) (fun e => by have := hr k e.symm; omega)⟩
theorem Own.only {B : Nat} {w w' : World} {base : Nat} {a : Option Addr} {n c : Nat} {xs : List Nat} (h : Own w base a n c xs) (ho : Only B w w') (hB : B < base) : Own w' base a n c xs := by
  refine h.kept ho.grown ?_
  cases hk : (Value.slice a n c).ownBlock with
  | none => exact .inl rfl
  | some k => refine .inr fun e => ?_; have := (World.ownsRow.lt h.1 k hk).1; cases e; omega
theorem Cur.bel {B : Nat} {a : Option Addr} {len cap : Nat} {w w' : World} (h : Cur B a len cap w) (hb : Below w.heap.size w w') : Cur B a len cap w' := h.kept (hb.mono h.hB)

set_option maxHeartbeats 2000000 in
theorem wordD (B : Nat) (a : Option Addr) (len cap : Nat) (w : World) (hc : Cur B a len cap w) :
    Calls Try.prog 53 #[.pointer (some ⟨B, 0, none⟩)] w fun e w' => ∃ x : Nat, x < 4294967296 ∧ e = .returned (.int .u32 x) ∧ Cur B a len cap w' ∧ Only B w w' := by
  have hB := hc.hB
  have HC := hide hc
  clear hc
  go_enter Try.func53, Try.ntmps53
  go_wp2_with fail
  refine (belowD B a len cap _ HC.out 4 (by omega)).mono ?_
  rintro e w2 ⟨x, hx, rfl, hc2, ho2⟩
  have hx' : 0 ≤ x ∧ x < 4 := by rcases hx with h | h <;> omega
  obtain ⟨hx1, hx2⟩ := hx'
  have HON := hide ho2
  replace HC := hide hc2
  have hB2 := hc2.hB
  clear hx hc2 ho2
  by_cases h0 : x = 0
  · have e0 : (x == 0) = true := by rw [h0]; rfl
    clear h0
    go_wp2_with fail
    have hb := bl_alloc (bl_refl w2) (Obj.cells #[Value.int .i64 0, Value.int .i64 1, Value.int .i64 2, Value.int .i64 31, Value.int .i64 32, Value.int .i64 255, Value.int .i64 256, Value.int .i64 2147483647, Value.int .i64 2147483648, Value.int .i64 4294967295, Value.int .i64 4294967294] 3)
    have HCA := hide (HC.out.alloc (Obj.cells #[Value.int .i64 0, Value.int .i64 1, Value.int .i64 2, Value.int .i64 31, Value.int .i64 32, Value.int .i64 255, Value.int .i64 256, Value.int .i64 2147483647, Value.int .i64 2147483648, Value.int .i64 4294967295, Value.int .i64 4294967294] 3))
    have HPK := hide (new_ints w2 #[Value.int .i64 0, Value.int .i64 1, Value.int .i64 2, Value.int .i64 31, Value.int .i64 32, Value.int .i64 255, Value.int .i64 256, Value.int .i64 2147483647, Value.int .i64 2147483648, Value.int .i64 4294967295, Value.int .i64 4294967294] 3 (fun z => 0 ≤ z ∧ z < 4294967296) (by
      intro v hv
      simp only [List.mem_cons, List.not_mem_nil, or_false] at hv
      rcases hv with rfl | rfl | rfl | rfl | rfl | rfl | rfl | rfl | rfl | rfl | rfl
      all_goals exact ⟨_, by omega, rfl⟩) 11 (by simp))
    have zL : w2.heap.size < (w2.alloc (Obj.cells #[Value.int .i64 0, Value.int .i64 1, Value.int .i64 2, Value.int .i64 31, Value.int .i64 32, Value.int .i64 255, Value.int .i64 256, Value.int .i64 2147483647, Value.int .i64 2147483648, Value.int .i64 4294967295, Value.int .i64 4294967294] 3)).heap.size := by simp only [World.size_alloc]; omega
    replace HON := hide (HON.out.bel hb)
    clear hb HC
    generalize w2.alloc (Obj.cells #[Value.int .i64 0, Value.int .i64 1, Value.int .i64 2, Value.int .i64 31, Value.int .i64 32, Value.int .i64 255, Value.int .i64 256, Value.int .i64 2147483647, Value.int .i64 2147483648, Value.int .i64 4294967295, Value.int .i64 4294967294] 3) = w3 at *
    refine (pickIntD B a len cap _ HCA.out w2.heap.size 11 (fun z => 0 ≤ z ∧ z < 4294967296) zL (by omega) (by omega) (by omega) HPK.out).mono ?_
    rintro e w4 ⟨y, hy, rfl, hc4, ho4⟩
    obtain ⟨z, rfl⟩ := Int.eq_ofNat_of_zero_le hy.1
    have hz := hy.2
    have HF := hide (show Cur B a len cap w4 ∧ Only B w w4 from ⟨hc4, HON.out.trans ho4⟩)
    clear hc4 ho4 hy HCA HPK HON
    go_wp2
    go_ret
    exact ⟨z, by omega, rfl, HF.out⟩
  have e0 : (x == 0) = false := by rw [beq_eq_false_iff_ne]; exact h0
  by_cases h1 : x = 1
  · have e1 : (x == 1) = true := by rw [h1]; rfl
    clear h0 h1
    go_wp2_with fail
    refine (belowD B a len cap _ HC.out 300 (by omega)).mono ?_
    rintro e w4 ⟨y, hy, rfl, hc4, ho4⟩
    have hy' : 0 ≤ y ∧ y < 300 := by rcases hy with h | h <;> omega
    obtain ⟨z, rfl⟩ := Int.eq_ofNat_of_zero_le hy'.1
    have hz := hy'.2
    have HF := hide (show Cur B a len cap w4 ∧ Only B w w4 from ⟨hc4, HON.out.trans ho4⟩)
    clear hc4 ho4 hy hy' HC HON
    go_wp2
    go_ret
    exact ⟨z, by omega, rfl, HF.out⟩
  have e1 : (x == 1) = false := by rw [beq_eq_false_iff_ne]; exact h1
  clear h0 h1
  go_wp2_with fail
  refine (belowD B a len cap _ HC.out 65536 (by omega)).mono ?_
  rintro e w4 ⟨y, hy, rfl, hc4, ho4⟩
  have hy' : 0 ≤ y ∧ y < 65536 := by rcases hy with h | h <;> omega
  obtain ⟨z, rfl⟩ := Int.eq_ofNat_of_zero_le hy'.1
  have hz := hy'.2
  replace HON := hide (HON.out.trans ho4)
  replace HC := hide hc4
  clear hc4 ho4 hy hy'
  go_wp2_with fail
  refine (belowD B a len cap _ HC.out 65536 (by omega)).mono ?_
  rintro e w5 ⟨y, hy, rfl, hc5, ho5⟩
  have hy' : 0 ≤ y ∧ y < 65536 := by rcases hy with h | h <;> omega
  obtain ⟨u, rfl⟩ := Int.eq_ofNat_of_zero_le hy'.1
  have hu := hy'.2
  have HF := hide (show Cur B a len cap w5 ∧ Only B w w5 from ⟨hc5, HON.out.trans ho5⟩)
  clear hc5 ho5 hy hy' HC HON
  go_wp2
  go_ret
  exact ⟨z * 65536 + u, by omega, ret_int (by omega), HF.out⟩

theorem small_len {n : Bool} {xs : List Nat} (hs : Num.Small xs) : (lms (mk n (Num.nat xs))).length ≤ xs.length := by rw [mk_lms]; exact limbs_len_le hs
end Go.Proofs.Ythjapjbiclkhcaa
