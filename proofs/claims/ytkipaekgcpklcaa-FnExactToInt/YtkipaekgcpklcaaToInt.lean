/- The walks of the two ToInt: the int that a number is; nothing that was there turns. -/
import Derived.Test.YtkipaekgcpklcaaMake
namespace Go.Proofs.Ytkipaekgcpklcaa
open Go.RowKit
set_option linter.unusedVariables false

/-- the int that a sign and limbs are, and whether they are one -/
def fitsI (neg : Bool) (xs : List Nat) : Bool := okB neg xs && decide (-9223372036854775808 ≤ mk neg (Num.nat xs) ∧ mk neg (Num.nat xs) ≤ 9223372036854775807)
def toIntR (neg : Bool) (xs : List Nat) : Int := if fitsI neg xs then mk neg (Num.nat xs) else 0

theorem ret_two {a b : Int} {t : Bool} (h : a = b) : Ending.returned (.tuple #[.int .i64 a, .bool t]) = .returned (.tuple #[.int .i64 b, .bool t]) := by rw [h]
theorem or32 (m x : Int) (h0 : 0 ≤ m) (h1 : m < 4294967296) (hx : 0 ≤ x) (hx1 : x < 4294967296) : bits .or .u64 m (x * 4294967296) = m + x * 4294967296 := by
  obtain ⟨m, rfl⟩ := Int.eq_ofNat_of_zero_le h0
  obtain ⟨x, rfl⟩ := Int.eq_ofNat_of_zero_le hx
  have key : (BitVec.ofInt 64 (m : Int) ||| BitVec.ofInt 64 ((x : Int) * 4294967296)).toNat = m + x * 4294967296 := by
    rw [BitVec.toNat_or, BitVec.toNat_ofInt, BitVec.toNat_ofInt]
    have e1 : ((m : Int) % ((2 ^ 64 : Nat) : Int)).toNat = m := by omega
    have e2 : (((x : Int) * 4294967296) % ((2 ^ 64 : Nat) : Int)).toNat = 2 ^ 32 * x := by omega
    rw [e1, e2, Nat.or_comm, ← Nat.two_pow_add_eq_or_of_lt (by omega)]
    omega
  show IntKind.u64.wrap ((BitVec.ofInt 64 (m : Int) ||| BitVec.ofInt 64 ((x : Int) * 4294967296)).toNat : Nat) = _
  rw [key, IntKind.wrap_u64]
  omega
theorem or0 (x : Int) (hx : 0 ≤ x) (hx1 : x < 4294967296) : bits .or .u64 0 x = x := by
  obtain ⟨x, rfl⟩ := Int.eq_ofNat_of_zero_le hx
  have key : (BitVec.ofInt 64 (0 : Int) ||| BitVec.ofInt 64 (x : Int)).toNat = x := by
    rw [BitVec.toNat_or, BitVec.toNat_ofInt, BitVec.toNat_ofInt]
    have e2 : ((x : Int) % ((2 ^ 64 : Nat) : Int)).toNat = x := by omega
    rw [e2]; simp
  show IntKind.u64.wrap ((BitVec.ofInt 64 (0 : Int) ||| BitVec.ofInt 64 (x : Int)).toNat : Nat) = _
  rw [key, IntKind.wrap_u64]
  omega

set_option maxHeartbeats 2000000 in
set_option maxRecDepth 20000 in
theorem toIntS (v : Value) (neg : Bool) (xs : List Nat) (w : World) (h : Raw w v neg xs) :
    Calls Try.prog 39 #[v] w fun e w' => e = .returned (.tuple #[.int .i64 (toIntR neg xs), .bool (fitsI neg xs)]) ∧ Below w.heap.size w w' := by
  obtain ⟨a, cap, rfl, hs⟩ := h
  have hcap := hs.2.1
  have hcm := hs.2.2.1
  have HS := hide (hs.below (bl_alloc (bl_refl w) (Obj.cells #[Value.bool neg, Value.slice a xs.length cap] 26)))
  have HZ := hide (bl_alloc (bl_refl w) (Obj.cells #[Value.bool neg, Value.slice a xs.length cap] 26))
  have k0 : (w.alloc (Obj.cells #[Value.bool neg, Value.slice a xs.length cap] 26)).cell? ⟨w.heap.size, 0, none⟩ = some (.bool neg) := by go_simp
  have k1 : (w.alloc (Obj.cells #[Value.bool neg, Value.slice a xs.length cap] 26)).cell? ⟨w.heap.size, 1, none⟩ = some (.slice a xs.length cap) := by go_simp
  have z0 : w.heap.size < (w.alloc (Obj.cells #[Value.bool neg, Value.slice a xs.length cap] 26)).heap.size := by simp only [World.size_alloc]; omega
  clear hs
  go_enter Try.func39, Try.ntmps39
  go_wp2_with fail
  generalize w.alloc (Obj.cells #[Value.bool neg, Value.slice a xs.length cap] 26) = w1 at *
  refine (okS _ neg xs _ ⟨a, cap, rfl, HS.out⟩).mono ?_
  rintro e w2 ⟨rfl, hb2⟩
  replace k0 := (hb2.cell (p := ⟨w.heap.size, 0, none⟩) z0).trans k0
  replace k1 := (hb2.cell (p := ⟨w.heap.size, 1, none⟩) z0).trans k1
  replace HS := hide (HS.out.below hb2)
  replace HZ := hide (bl_trans HZ.out hb2)
  clear hb2 z0
  cases e1 : okB neg xs with
  | false =>
    have HF : Hid (fitsI neg xs = false) := hide (by unfold fitsI; rw [e1]; rfl)
    clear e1
    go_wp2
    go_ret2
    unfold toIntR
    rw [HF.out]
    exact ⟨rfl, HZ.out⟩
  | true =>
  obtain ⟨z, rfl, rfl, hz⟩ := ok_num HS.out.2.2.2.1 e1
  have HM : Hid (mk (sgn z) (Num.nat (lms z)) = z) := hide (by rw [nat_lms, mk_self])
  have HF : Hid (fitsI (sgn z) (lms z) = decide (-9223372036854775808 ≤ z ∧ z ≤ 9223372036854775807)) := hide (by unfold fitsI; rw [e1, HM.out]; rfl)
  clear e1
  by_cases h2 : (2 : Int) < ((lms z).length : Int)
  · have hbig : ¬ z.natAbs < 4294967296 ^ 2 := fun hc => by have := Num.limbs_len.2 hc; unfold lms at h2; omega
    have HF' : Hid (fitsI (sgn z) (lms z) = false) := hide (by rw [HF.out]; exact decide_eq_false (by omega))
    go_wp2
    go_ret2
    unfold toIntR
    rw [HF'.out]
    exact ⟨rfl, HZ.out⟩
  have hl2 : (lms z).length ≤ 2 := by omega
  go_wp2_with fail
  go_loopw [4, 5] (fun m i wr => ∃ k : Nat, k ≤ (lms z).length ∧ i = .int .i64 k ∧ wr = w2 ∧ ∃ M : Nat, m = .int .u64 M ∧ Hid (M = Num.nat ((lms z).take k))) (fun _ i _ => (lms z).length - (intOf i).toNat)
  case atStart => exact ⟨0, Nat.zero_le _, rfl, rfl, 0, rfl, hide rfl⟩
  case round =>
    obtain ⟨k, hk, rfl, rfl, M, rfl, hM⟩ := hrel
    by_cases hlt : k < (lms z).length
    · rcases HS.out.2.2.2.2 with h0 | ⟨g, o, rfl, hg, hc⟩
      · omega
      have hck := hc k hlt
      have hlt' : (k : Int) < ((lms z).length : Int) := by omega
      have hx := Num.small_at HS.out.2.2.2.1 hlt
      have HN := hide (Num.nat_take_succ (lms z) k hlt)
      have HC := hide hc
      clear hc
      generalize (lms z)[k] = x at *
      obtain rfl | rfl : k = 0 ∨ k = 1 := by omega
      · rw [Nat.add_zero] at hck
        obtain rfl : M = 0 := hM.out
        go_wp2
        refine ⟨⟨1, by omega, rfl, trivial, x, rfl, hide (by rw [HN.out]; simp [Num.nat])⟩, by simp [intOf]; omega⟩
      · have hM1 : M < 4294967296 := by
          have := Num.nat_lt (Num.small_take HS.out.2.2.2.1 1)
          rw [← hM.out] at this
          have h3 := (List.length_take_le 1 (lms z))
          have := Nat.lt_of_lt_of_le this (Nat.pow_le_pow_right (by decide) h3)
          simpa using this
        go_wp2
        refine ⟨⟨2, by omega, rfl, trivial, M + x * 4294967296, by go_num, hide (by rw [HN.out, ← hM.out]; omega)⟩, by simp [intOf]; omega⟩
    · obtain rfl : k = (lms z).length := by omega
      have hMz : M = z.natAbs := by have := hM.out; rwa [List.take_of_length_le (Nat.le_refl _), nat_lms] at this
      clear hM hz
      have T1 : Hid (fitsI (sgn z) (lms z) = true → toIntR (sgn z) (lms z) = z) := hide (fun e => by unfold toIntR; rw [e, if_pos rfl, HM.out])
      have T0 : Hid (fitsI (sgn z) (lms z) = false → toIntR (sgn z) (lms z) = 0) := hide (fun e => by unfold toIntR; rw [e]; rfl)
      by_cases hn : z < 0
      · have ex : sgn z = true := decide_eq_true hn
        by_cases hr : -9223372036854775808 ≤ z
        · have HF' : Hid (fitsI (sgn z) (lms z) = true) := hide (by rw [HF.out]; exact decide_eq_true (by omega))
          have HT := hide (T1.out HF'.out)
          rw [ex] at k0
          clear HF T1 T0 ex
          by_cases hr2 : z = -9223372036854775808
          · subst hr2
            obtain rfl : M = 9223372036854775808 := hMz
            go_wp2
            go_ret2
            rw [HF'.out, HT.out]
            exact ⟨rfl, HZ.out⟩
          · go_wp2
            go_ret2
            rw [HF'.out, HT.out]
            exact ⟨ret_two (by omega), HZ.out⟩
        · have HF' : Hid (fitsI (sgn z) (lms z) = false) := hide (by rw [HF.out]; exact decide_eq_false (by omega))
          have HT := hide (T0.out HF'.out)
          rw [ex] at k0
          clear HF T1 T0 ex
          go_wp2
          go_ret2
          rw [HF'.out, HT.out]
          exact ⟨rfl, HZ.out⟩
      · have ex : sgn z = false := decide_eq_false hn
        by_cases hr : z ≤ 9223372036854775807
        · have HF' : Hid (fitsI (sgn z) (lms z) = true) := hide (by rw [HF.out]; exact decide_eq_true (by omega))
          have HT := hide (T1.out HF'.out)
          rw [ex] at k0
          clear HF T1 T0 ex
          go_wp2
          go_ret2
          rw [HF'.out, HT.out]
          exact ⟨ret_two (by omega), HZ.out⟩
        · have HF' : Hid (fitsI (sgn z) (lms z) = false) := hide (by rw [HF.out]; exact decide_eq_false (by omega))
          have HT := hide (T0.out HF'.out)
          rw [ex] at k0
          clear HF T1 T0 ex
          go_wp2
          go_ret2
          rw [HF'.out, HT.out]
          exact ⟨rfl, HZ.out⟩

set_option maxHeartbeats 2000000 in
set_option maxRecDepth 20000 in
theorem toIntI (v : Value) (neg : Bool) (xs : List Nat) (w : World) (h : Raw w v neg xs) :
    Calls Try.prog 40 #[v] w fun e w' => e = .returned (.tuple #[.int .i64 (toIntR neg xs), .bool (fitsI neg xs)]) ∧ Below w.heap.size w w' := by
  obtain ⟨a, cap, rfl, hs⟩ := h
  have hcap := hs.2.1
  have hcm := hs.2.2.1
  have HS := hide (hs.below (bl_alloc (bl_refl w) (Obj.cells #[Value.bool neg, Value.slice a xs.length cap] 26)))
  have HZ := hide (bl_alloc (bl_refl w) (Obj.cells #[Value.bool neg, Value.slice a xs.length cap] 26))
  have k0 : (w.alloc (Obj.cells #[Value.bool neg, Value.slice a xs.length cap] 26)).cell? ⟨w.heap.size, 0, none⟩ = some (.bool neg) := by go_simp
  have k1 : (w.alloc (Obj.cells #[Value.bool neg, Value.slice a xs.length cap] 26)).cell? ⟨w.heap.size, 1, none⟩ = some (.slice a xs.length cap) := by go_simp
  have z0 : w.heap.size < (w.alloc (Obj.cells #[Value.bool neg, Value.slice a xs.length cap] 26)).heap.size := by simp only [World.size_alloc]; omega
  clear hs
  go_enter Try.func40, Try.ntmps40
  go_wp2_with fail
  generalize w.alloc (Obj.cells #[Value.bool neg, Value.slice a xs.length cap] 26) = w1 at *
  refine (okI _ neg xs _ ⟨a, cap, rfl, HS.out⟩).mono ?_
  rintro e w2 ⟨rfl, hb2⟩
  replace k0 := (hb2.cell (p := ⟨w.heap.size, 0, none⟩) z0).trans k0
  replace k1 := (hb2.cell (p := ⟨w.heap.size, 1, none⟩) z0).trans k1
  replace HS := hide (HS.out.below hb2)
  replace HZ := hide (bl_trans HZ.out hb2)
  clear hb2 z0
  cases e1 : okB neg xs with
  | false =>
    have HF : Hid (fitsI neg xs = false) := hide (by unfold fitsI; rw [e1]; rfl)
    clear e1
    go_wp2
    go_ret2
    unfold toIntR
    rw [HF.out]
    exact ⟨rfl, HZ.out⟩
  | true =>
  obtain ⟨z, rfl, rfl, hz⟩ := ok_num HS.out.2.2.2.1 e1
  have HM : Hid (mk (sgn z) (Num.nat (lms z)) = z) := hide (by rw [nat_lms, mk_self])
  have HF : Hid (fitsI (sgn z) (lms z) = decide (-9223372036854775808 ≤ z ∧ z ≤ 9223372036854775807)) := hide (by unfold fitsI; rw [e1, HM.out]; rfl)
  clear e1
  by_cases h2 : (2 : Int) < ((lms z).length : Int)
  · have hbig : ¬ z.natAbs < 4294967296 ^ 2 := fun hc => by have := Num.limbs_len.2 hc; unfold lms at h2; omega
    have HF' : Hid (fitsI (sgn z) (lms z) = false) := hide (by rw [HF.out]; exact decide_eq_false (by omega))
    go_wp2
    go_ret2
    unfold toIntR
    rw [HF'.out]
    exact ⟨rfl, HZ.out⟩
  have hl2 : (lms z).length ≤ 2 := by omega
  go_wp2_with fail
  go_loopw [4, 5, 6, 19] (fun m _ _ i wr => ∃ k : Nat, k ≤ (lms z).length ∧ i = .int .i64 k ∧ wr = w2 ∧ ∃ M : Nat, m = .int .u64 M ∧ Hid (M = Num.nat ((lms z).take k))) (fun _ _ _ i _ => (lms z).length - (intOf i).toNat)
  case atStart => exact ⟨0, Nat.zero_le _, rfl, rfl, 0, rfl, hide rfl⟩
  case round =>
    obtain ⟨k, hk, rfl, rfl, M, rfl, hM⟩ := hrel
    by_cases hlt : k < (lms z).length
    · rcases HS.out.2.2.2.2 with h0 | ⟨g, o, rfl, hg, hc⟩
      · omega
      have hck := hc k hlt
      have hlt' : (k : Int) < ((lms z).length : Int) := by omega
      have hx := Num.small_at HS.out.2.2.2.1 hlt
      have HN := hide (Num.nat_take_succ (lms z) k hlt)
      have HC := hide hc
      clear hc
      generalize (lms z)[k] = x at *
      obtain rfl | rfl : k = 0 ∨ k = 1 := by omega
      · rw [Nat.add_zero] at hck
        obtain rfl : M = 0 := hM.out
        have HR := or0 x (by omega) (by omega)
        go_wp2
        refine ⟨⟨1, by omega, rfl, trivial, x, rfl, hide (by rw [HN.out]; simp [Num.nat])⟩, by simp [intOf]; omega⟩
      · have hM1 : M < 4294967296 := by
          have := Num.nat_lt (Num.small_take HS.out.2.2.2.1 1)
          rw [← hM.out] at this
          have h3 := (List.length_take_le 1 (lms z))
          have := Nat.lt_of_lt_of_le this (Nat.pow_le_pow_right (by decide) h3)
          simpa using this
        have HR := or32 M x (by omega) (by omega) (by omega) (by omega)
        go_wp2
        refine ⟨⟨2, by omega, rfl, trivial, M + x * 4294967296, by go_num, hide (by rw [HN.out, ← hM.out]; omega)⟩, by simp [intOf]; omega⟩
    · obtain rfl : k = (lms z).length := by omega
      have hMz : M = z.natAbs := by have := hM.out; rwa [List.take_of_length_le (Nat.le_refl _), nat_lms] at this
      clear hM hz
      have T1 : Hid (fitsI (sgn z) (lms z) = true → toIntR (sgn z) (lms z) = z) := hide (fun e => by unfold toIntR; rw [e, if_pos rfl, HM.out])
      have T0 : Hid (fitsI (sgn z) (lms z) = false → toIntR (sgn z) (lms z) = 0) := hide (fun e => by unfold toIntR; rw [e]; rfl)
      by_cases hn : z < 0
      · have ex : sgn z = true := decide_eq_true hn
        by_cases hr : -9223372036854775808 ≤ z
        · have HF' : Hid (fitsI (sgn z) (lms z) = true) := hide (by rw [HF.out]; exact decide_eq_true (by omega))
          have HT := hide (T1.out HF'.out)
          rw [ex] at k0
          clear HF T1 T0 ex
          go_wp2
          go_ret2
          rw [HF'.out, HT.out]
          exact ⟨ret_two (by simp only [wrap64, IntKind.wrap_u64]; omega), HZ.out⟩
        · have HF' : Hid (fitsI (sgn z) (lms z) = false) := hide (by rw [HF.out]; exact decide_eq_false (by omega))
          have HT := hide (T0.out HF'.out)
          rw [ex] at k0
          clear HF T1 T0 ex
          go_wp2
          go_ret2
          rw [HF'.out, HT.out]
          exact ⟨rfl, HZ.out⟩
      · have ex : sgn z = false := decide_eq_false hn
        by_cases hr : z ≤ 9223372036854775807
        · have HF' : Hid (fitsI (sgn z) (lms z) = true) := hide (by rw [HF.out]; exact decide_eq_true (by omega))
          have HT := hide (T1.out HF'.out)
          rw [ex] at k0
          clear HF T1 T0 ex
          go_wp2
          go_ret2
          rw [HF'.out, HT.out]
          exact ⟨ret_two (by omega), HZ.out⟩
        · have HF' : Hid (fitsI (sgn z) (lms z) = false) := hide (by rw [HF.out]; exact decide_eq_false (by omega))
          have HT := hide (T0.out HF'.out)
          rw [ex] at k0
          clear HF T1 T0 ex
          go_wp2
          go_ret2
          rw [HF'.out, HT.out]
          exact ⟨rfl, HZ.out⟩
end Go.Proofs.Ytkipaekgcpklcaa
