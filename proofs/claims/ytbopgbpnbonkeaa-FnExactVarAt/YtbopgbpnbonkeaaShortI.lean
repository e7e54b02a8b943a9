/- The walks of bits.Div32 and divideShort: a list of limbs divided by one limb, in new memory. -/
import Derived.Test.YtbopgbpnbonkeaaShort
import Derived.Test.YtbopgbpnbonkeaaToInt
namespace Go.Proofs.Ytbopgbpnbonkeaa
open Go.RowKit
set_option linter.unusedVariables false

theorem or32' (m x : Int) (h0 : 0 ≤ m) (h1 : m < 4294967296) (hx : 0 ≤ x) (hx1 : x < 4294967296) : bits .or .u64 (x * 4294967296) m = x * 4294967296 + m := by
  have h := or32 m x h0 h1 hx hx1
  have e : bits .or .u64 (x * 4294967296) m = bits .or .u64 m (x * 4294967296) := by
    show IntKind.u64.wrap ((BitVec.ofInt 64 (x * 4294967296) ||| BitVec.ofInt 64 m).toNat : Nat) = IntKind.u64.wrap ((BitVec.ofInt 64 m ||| BitVec.ofInt 64 (x * 4294967296)).toNat : Nat)
    rw [BitVec.or_comm]
  rw [e, h]; omega

theorem ret_two32 {a b c d : Int} (h : a = c) (k : b = d) : Ending.returned (.tuple #[.int .u32 a, .int .u32 b]) = .returned (.tuple #[.int .u32 c, .int .u32 d]) := by rw [h, k]

set_option maxHeartbeats 2000000 in
set_option maxRecDepth 20000 in
theorem div32 (r x d : Nat) (w : World) (hr : r < d) (hd : d < 4294967296) (hx : x < 4294967296) :
    Calls Try.prog 90 #[.int .u32 r, .int .u32 x, .int .u32 d] w fun e w' => e = .returned (.tuple #[.int .u32 (((r * 4294967296 + x) / d : Nat) : Int), .int .u32 (((r * 4294967296 + x) % d : Nat) : Int)]) ∧ ∃ m, w' = w.drewN m := by
  have hq := quot_lt hr hx
  have hrm := Nat.mod_lt (r * 4294967296 + x) (show 0 < d by omega)
  have hor := or32' x r (by omega) (by omega) (by omega) (by omega)
  have e1 : ((r : Int) * 4294967296 + (x : Int)) % (d : Int) = (((r * 4294967296 + x) % d : Nat) : Int) := by
    rw [Int.natCast_emod, Int.natCast_add, Int.natCast_mul]; rfl
  have e2 : ((r : Int) * 4294967296 + (x : Int)) / (d : Int) = (((r * 4294967296 + x) / d : Nat) : Int) := by
    rw [Int.natCast_ediv, Int.natCast_add, Int.natCast_mul]; rfl
  have hdr : ¬ (d : Int) ≤ (r : Int) := by omega
  have hd0 : ((d : Int) != 0) = true := by rw [bne_iff_ne]; omega
  have E1 := hide e1
  have E2 := hide e2
  have HQ := hide hq
  have HR := hide hrm
  clear e1 e2 hq hrm
  go_enter Try.func90, Try.ntmps90
  have hdz : ((d : Int) == 0) = false := by rw [beq_eq_false_iff_ne]; omega
  go_wp2_with fail
  go_quiet (fail)
  go_wp2
  go_ret2
  refine ⟨ret_two32 ?_ ?_, nq, rfl⟩
  · rw [E2.out]
    have := HQ.out
    generalize (r * 4294967296 + x) / d = q at *
    omega
  · rw [E1.out]
    have := HR.out
    generalize (r * 4294967296 + x) % d = q at *
    omega

set_option maxHeartbeats 4000000 in
set_option maxRecDepth 20000 in
theorem shortI (a : Option Addr) (n ca d : Nat) (xs : List Nat) (w : World) (ha : Seg w a n ca xs) (hn : n ≤ 1000000) (hd0 : 0 < d) (hd : d < 4294967296) :
    Calls Try.prog 85 #[.slice a n ca, .int .u32 d] w fun e w' => ∃ (qs : List Nat) (r : Nat), e = .returned (.tuple #[.slice (some ⟨w.heap.size, 0, none⟩) n n, .int .u32 r]) ∧ DSo d xs qs 0 r ∧ Own w' w.heap.size (some ⟨w.heap.size, 0, none⟩) n n qs ∧ Below w.heap.size w w' := by
  obtain ⟨i0, hi, hz0, hz1, hz2⟩ := info_parts Try.info68
  obtain rfl := ha.1
  have hca := ha.2.1
  have hcm := ha.2.2.1
  have HA := hide ha
  clear ha
  go_enter Try.func85, Try.ntmps85
  go_wp2_with (at_make; refine wpList_make_full _ rfl _ _ 32 rfl w.heap.size 68 i0 (.int .u32 0) 1 Try.underlying32 hi hz0 hz1 _ _ _ _ xs.length rfl rfl rfl rfl (by rw [hz2]; omega) (by unfold maxLen; omega) (Nat.le_refl _) ?_; intro w3 hown hgrow; have HZ3 := hide ((bl_refl w).grown hgrow (Nat.le_refl _) (by simp)); have B3 := hide (own_made2 hown).blk; clear hown hgrow)
  go_loopw [7, 8] (fun rv i wr => ∃ (k r : Nat) (qs : List Nat), k ≤ xs.length ∧ i = .int .i64 ((k : Int) - 1) ∧ rv = .int .u32 r ∧ r < d ∧ Hid (DSo d xs qs k r) ∧ Hid (Blk wr w.heap.size qs) ∧ Hid (Below w.heap.size w wr)) (fun _ i _ => (intOf i + 1).toNat)
  case atStart =>
    refine ⟨xs.length, 0, List.replicate xs.length 0, Nat.le_refl _, by go_num, rfl, hd0, hide ⟨by simp, Num.small_replicate _, hd0, ?_⟩, B3, HZ3⟩
    rw [List.drop_eq_nil_of_le (Nat.le_refl _), List.drop_eq_nil_of_le (by simp)]; simp [Num.nat]
  case round =>
    obtain ⟨k, r, qs, hk, rfl, rfl, hr, hS, hB, hZ⟩ := hrel
    by_cases h0 : k = 0
    · subst h0
      have HO := hide (hB.out.own (base := w.heap.size) (Nat.le_refl _) (by rw [hS.out.1]; omega))
      rw [hS.out.1] at HO
      go_wp2
      go_ret2
      exact ⟨qs, r, rfl, hS.out, HO.out, hZ.out⟩
    · obtain ⟨j, rfl⟩ : ∃ j, k = j + 1 := ⟨k - 1, by omega⟩
      have ej : (((j + 1 : Nat) : Int) - 1) = (j : Int) := by omega
      rw [ej]
      have hjx : j < xs.length := by omega
      have hjx' : (j : Int) < (xs.length : Int) := by omega
      obtain ⟨g, o, rfl, hg, hc⟩ := seg_cell (HA.out.below hZ.out) j hjx
      have hxs := Num.small_at HA.out.2.2.2.1 hjx
      have HST := hide (dso_step hS.out hjx rfl hd hxs)
      have hql : qs.length = xs.length := hS.out.1
      generalize xs[j] = x at *
      have hq := quot_lt hr hxs
      go_wp2_with fail
      refine (div32 r x d _ hr hd hxs).mono ?_
      rintro e w5 ⟨rfl, m, hw5⟩
      have hB5 : Blk w5 w.heap.size qs := by rw [hw5]; exact hB.out.below (below_drewN (bl_refl wr) m)
      have hZ5 : Hid (Below w.heap.size w w5) := hide (by rw [hw5]; exact below_drewN hZ.out m)
      clear hw5
      have hcl := hB5.cell j (by omega)
      have hfz := hB5.frozen j
      have HSB := hide (hB5.set j ((r * 4294967296 + x) / d) hq)
      obtain ⟨y, hy⟩ : ∃ y, qs[j]'(by omega) = y := ⟨_, rfl⟩
      rw [hy] at hcl
      have hrm := Nat.mod_lt (r * 4294967296 + x) hd0
      clear hy hS hB hB5
      generalize (r * 4294967296 + x) / d = q at *
      generalize (r * 4294967296 + x) % d = r2 at *
      go_wp2
      exact ⟨⟨j, r2, _, by omega, by go_num, rfl, hrm, HST, hide HSB.out.1, hide (hZ5.out.setCell (p := ⟨w.heap.size, j, none⟩) (Nat.le_refl _) _)⟩, by simp [intOf]⟩
end Go.Proofs.Ytbopgbpnbonkeaa
