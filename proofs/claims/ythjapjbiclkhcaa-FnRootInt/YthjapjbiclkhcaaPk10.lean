/- My texts Short, ToInt, in this order. -/
import Derived.Test.YthjapjbiclkhcaaPk05
import Derived.Test.YthjapjbiclkhcaaPk09
import Derived.Test.YthjapjbiclkhcaaPk02
/- The walks of l02Short and divideShort: a list of limbs divided by one limb, in new memory. -/
namespace Go.Proofs.Ythjapjbiclkhcaa
open Go.RowKit
set_option linter.unusedVariables false

/-- the quotient and the rest so far: the limbs from place k on -/
def DSo (d : Nat) (xs qs : List Nat) (k r : Nat) : Prop :=
  qs.length = xs.length ∧ Num.Small qs ∧ r < d ∧ Num.nat (xs.drop k) = Num.nat (qs.drop k) * d + r
theorem quot_lt {d r x : Nat} (hr : r < d) (hx : x < 4294967296) : (r * 4294967296 + x) / d < 4294967296 := by
  rw [Nat.div_lt_iff_lt_mul (by omega)]
  have : (r + 1) * 4294967296 ≤ d * 4294967296 := Nat.mul_le_mul_right _ hr
  rw [Nat.add_mul] at this
  rw [Nat.mul_comm 4294967296 d]
  omega
theorem own_one (w : World) (p : Nat) (hp : p < 4294967296) : Own (w.alloc (Obj.cells #[Value.int .u32 p] 56)) w.heap.size (some ⟨w.heap.size, 0, none⟩) 1 1 [p] := by
  refine ⟨?_, fun x hx => ?_⟩
  · have := World.ownsRow_lit (base := w.heap.size) (e := 56) (size := 1) w #[Value.int .u32 p] 1 (Nat.le_refl _) (by unfold maxLen; omega) rfl
    simpa [lim] using this
  · simp at hx; omega
theorem dso_step {d : Nat} {xs qs : List Nat} {k r x : Nat} (h : DSo d xs qs (k + 1) r) (hk : k < xs.length) (hx : xs[k] = x) (hd : d < 4294967296) (hxs : x < 4294967296) :
    DSo d xs (qs.set k ((r * 4294967296 + x) / d)) k ((r * 4294967296 + x) % d) := by
  obtain ⟨h1, h2, h3, h4⟩ := h
  have hd0 : 0 < d := by omega
  have hq : (r * 4294967296 + x) / d < 4294967296 := by
    rw [Nat.div_lt_iff_lt_mul hd0]
    have : (r + 1) * 4294967296 ≤ d * 4294967296 := Nat.mul_le_mul_right _ h3
    rw [Nat.add_mul] at this
    rw [Nat.mul_comm 4294967296 d]
    omega
  have hkq : k < qs.length := by omega
  refine ⟨by rw [List.length_set]; exact h1, Num.small_set h2 _ _ hq, Nat.mod_lt _ hd0, ?_⟩
  have e1 : (qs.set k ((r * 4294967296 + x) / d)).drop k = ((r * 4294967296 + x) / d) :: qs.drop (k + 1) := by
    rw [List.drop_set, if_neg (by omega), Nat.sub_self, List.drop_eq_getElem_cons hkq, List.set_cons_zero]
  rw [e1, Num.nat_drop xs k hk, hx, h4, Num.nat]
  have e2 := Nat.div_add_mod (r * 4294967296 + x) d
  rw [Nat.add_mul, Nat.mul_comm ((r * 4294967296 + x) / d) d]
  generalize d * ((r * 4294967296 + x) / d) = A at *
  rw [Nat.mul_add, Nat.mul_assoc 4294967296]
  generalize 4294967296 * (Num.nat (qs.drop (k + 1)) * d) = B at *
  omega

set_option maxHeartbeats 4000000 in
set_option maxRecDepth 20000 in
theorem shortS (a : Option Addr) (n ca d : Nat) (xs : List Nat) (w : World) (ha : Seg w a n ca xs) (hn : n ≤ 1000000) (hd0 : 0 < d) (hd : d < 4294967296) :
    Calls Try.prog 96 #[.slice a n ca, .int .u32 d] w fun e w' => ∃ (g2 : Nat) (qs : List Nat) (r : Nat), e = .returned (.tuple #[.slice (some ⟨w.heap.size, 0, none⟩) n n, .slice (some ⟨g2, 0, none⟩) 1 1]) ∧ w.heap.size < g2 ∧ DSo d xs qs 0 r ∧ Own w' w.heap.size (some ⟨w.heap.size, 0, none⟩) n n qs ∧ Own w' g2 (some ⟨g2, 0, none⟩) 1 1 [r] ∧ Below w.heap.size w w' := by
  obtain ⟨i0, hi, hz0, hz1, hz2⟩ := info_parts Try.info56
  obtain rfl := ha.1
  have hca := ha.2.1
  have hcm := ha.2.2.1
  have HA := hide ha
  clear ha
  go_enter Try.func96, Try.ntmps96
  go_wp2_with (at_make; refine wpList_make_full _ rfl _ _ 24 rfl w.heap.size 56 i0 (.int .u32 0) 1 Try.underlying24 hi hz0 hz1 _ _ _ _ xs.length rfl rfl rfl rfl (by rw [hz2]; omega) (by unfold maxLen; omega) (Nat.le_refl _) ?_; intro w3 hown hgrow; have HZ3 := hide ((bl_refl w).grown hgrow (Nat.le_refl _) (by simp)); have B3 := hide (own_made2 hown).blk; clear hown hgrow)
  go_loopw [7, 8, 9] (fun rv i _ wr => ∃ (k r : Nat) (qs : List Nat), k ≤ xs.length ∧ i = .int .i64 ((k : Int) - 1) ∧ rv = .int .u64 r ∧ r < d ∧ Hid (DSo d xs qs k r) ∧ Hid (Blk wr w.heap.size qs) ∧ Hid (Below w.heap.size w wr)) (fun _ i _ _ => (intOf i + 1).toNat)
  case atStart =>
    refine ⟨xs.length, 0, List.replicate xs.length 0, Nat.le_refl _, by go_num, rfl, hd0, hide ⟨by simp, Num.small_replicate _, hd0, ?_⟩, B3, HZ3⟩
    rw [List.drop_eq_nil_of_le (Nat.le_refl _), List.drop_eq_nil_of_le (by simp)]; simp [Num.nat]
  case round =>
    obtain ⟨k, r, qs, hk, rfl, rfl, hr, hS, hB, hZ⟩ := hrel
    by_cases h0 : k = 0
    · subst h0
      have hr32 : r < 4294967296 := by omega
      have HO := hide (hB.out.own (base := w.heap.size) (Nat.le_refl _) (by rw [hS.out.1]; omega))
      rw [hS.out.1] at HO
      have hlt := hB.out.lt
      go_wp2
      go_ret2
      exact ⟨wr.heap.size, qs, r, rfl, hlt, hS.out, HO.out.below (bl_alloc (bl_refl wr) _), own_one wr r hr32, bl_alloc hZ.out _⟩
    · obtain ⟨j, rfl⟩ : ∃ j, k = j + 1 := ⟨k - 1, by omega⟩
      have ej : (((j + 1 : Nat) : Int) - 1) = (j : Int) := by omega
      rw [ej]
      have hjx : j < xs.length := by omega
      have hjx' : (j : Int) < (xs.length : Int) := by omega
      obtain ⟨g, o, rfl, hg, hc⟩ := seg_cell (HA.out.below hZ.out) j hjx
      have hxs := Num.small_at HA.out.2.2.2.1 hjx
      have HST := hide (dso_step hS.out hjx rfl hd hxs)
      have hql : qs.length = xs.length := hS.out.1
      have hcl := hB.out.cell j (by omega)
      have hfz := hB.out.frozen j
      generalize xs[j] = x at *
      obtain ⟨y, hy⟩ : ∃ y, qs[j]'(by omega) = y := ⟨_, rfl⟩
      rw [hy] at hcl
      clear hy hS
      have hdi : ((d : Int) == 0) = false := by rw [beq_eq_false_iff_ne]; omega
      have hq := quot_lt hr hxs
      have e1 : ((r : Int) * 4294967296 + (x : Int)) % (d : Int) = (((r * 4294967296 + x) % d : Nat) : Int) := by
        rw [Int.natCast_emod, Int.natCast_add, Int.natCast_mul]; rfl
      have e2 : ((r : Int) * 4294967296 + (x : Int)) / (d : Int) % 4294967296 = (((r * 4294967296 + x) / d : Nat) : Int) := by
        have : ((r : Int) * 4294967296 + (x : Int)) / (d : Int) = (((r * 4294967296 + x) / d : Nat) : Int) := by rw [Int.natCast_ediv, Int.natCast_add, Int.natCast_mul]; rfl
        rw [this]
        clear HST this
        generalize (r * 4294967296 + x) / d = q at *
        omega
      have E1 := hide e1
      have E2 := hide e2
      have HSB := hide (hB.out.set j ((r * 4294967296 + x) / d) hq)
      clear e1 e2
      go_wp2
      rw [E1.out, E2.out]
      exact ⟨⟨j, (r * 4294967296 + x) % d, _, by omega, by go_num, rfl, Nat.mod_lt _ hd0, HST, hide HSB.out.1, hide (hZ.out.setCell (p := ⟨w.heap.size, j, none⟩) (Nat.le_refl _) _)⟩, by simp [intOf]⟩
end Go.Proofs.Ythjapjbiclkhcaa

/- The walks of the two ToInt: the int that a number is; nothing that was there turns. -/
namespace Go.Proofs.Ythjapjbiclkhcaa
open Go.RowKit
set_option linter.unusedVariables false

/-- the int that a sign and limbs are, and whether they are one -/
def fitsI (neg : Bool) (xs : List Nat) : Bool := okB neg xs && decide (-9223372036854775808 ≤ mk neg (Num.nat xs) ∧ mk neg (Num.nat xs) ≤ 9223372036854775807)
def toIntR (neg : Bool) (xs : List Nat) : Int := if fitsI neg xs then mk neg (Num.nat xs) else 0

theorem ret_two {a b : Int} {t : Bool} (h : a = b) : Ending.returned (.tuple #[.int .i64 a, .bool t]) = .returned (.tuple #[.int .i64 b, .bool t]) := by rw [h]
theorem or32 (m x : Int) (h0 : 0 ≤ m) (h1 : m < 4294967296) (hx : 0 ≤ x) (hx1 : x < 4294967296) : bits .or .u64 m (x * 4294967296) = m + x * 4294967296 := by
  obtain ⟨m, rfl⟩ := Int.eq_ofNat_of_zero_le h0
  obtain ⟨x, rfl⟩ := Int.eq_ofNat_of_zero_le hx
  have key : (BitVec.ofInt 64 (m : Int) ||| BitVec.ofInt 64 ((x : Int) * 4294967296)).toNat = m + x * 4294967296 := by
    rw [BitVec.toNat_or, BitVec.toNat_ofInt, BitVec.toNat_ofInt]
    have e1 : ((m : Int) % ((2 ^ 64 : Nat) : Int)).toNat = m := by omega
    have e2 : (((x : Int) * 4294967296) % ((2 ^ 64 : Nat) : Int)).toNat = 2 ^ 32 * x := by omega
    rw [e1, e2, Nat.or_comm, ← Nat.two_pow_add_eq_or_of_lt (by omega)]
    omega
  show IntKind.u64.wrap ((BitVec.ofInt 64 (m : Int) ||| BitVec.ofInt 64 ((x : Int) * 4294967296)).toNat : Nat) = _
  rw [key, IntKind.wrap_u64]
  omega
theorem or0 (x : Int) (hx : 0 ≤ x) (hx1 : x < 4294967296) : bits .or .u64 0 x = x := by
  obtain ⟨x, rfl⟩ := Int.eq_ofNat_of_zero_le hx
  have key : (BitVec.ofInt 64 (0 : Int) ||| BitVec.ofInt 64 (x : Int)).toNat = x := by
    rw [BitVec.toNat_or, BitVec.toNat_ofInt, BitVec.toNat_ofInt]
    have e2 : ((x : Int) % ((2 ^ 64 : Nat) : Int)).toNat = x := by omega
    rw [e2]; simp
  show IntKind.u64.wrap ((BitVec.ofInt 64 (0 : Int) ||| BitVec.ofInt 64 (x : Int)).toNat : Nat) = _
  rw [key, IntKind.wrap_u64]
  omega

end Go.Proofs.Ythjapjbiclkhcaa
