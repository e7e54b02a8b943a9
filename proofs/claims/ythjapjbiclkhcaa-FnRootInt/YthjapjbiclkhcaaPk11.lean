/- My texts Pow, PowNum, RootN, LongI, PowS, PowP, in this order. -/
import Derived.Test.YthjapjbiclkhcaaPk06
import Derived.Test.YthjapjbiclkhcaaPk01
import Derived.Test.YthjapjbiclkhcaaBits
import Derived.Deep.DeepCutAuto
import Derived.Test.YthjapjbiclkhcaaBitLen
import Derived.Test.YthjapjbiclkhcaaPk03
import Derived.Test.YthjapjbiclkhcaaPk05
import Derived.Deep.RegionHeld3
/- The walk of bigPower: a number to a power, in new memory. -/
namespace Go.Proofs.Ythjapjbiclkhcaa
open Go.RowKit
set_option linter.unusedVariables false

/-- what stands at the head of a round: the argument's box A, the answer's box R, and the box V of the number so far -/
structure PSt (w W : World) (base V : Nat) (z q : Int) (a : Option Addr) (ca : Nat) (av : Option Addr) (cv : Nat) : Prop where
  kA0 : W.cell? ⟨w.heap.size, 0, none⟩ = some (.bool (sgn z))
  kA1 : W.cell? ⟨w.heap.size, 1, none⟩ = some (.slice a (lms z).length ca)
  kR0 : W.cell? ⟨w.heap.size + 1, 0, none⟩ = some (.bool false)
  kR1 : W.cell? ⟨w.heap.size + 1, 1, none⟩ = some (.slice none 0 0)
  fR0 : W.frozen? ⟨w.heap.size + 1, 0, none⟩ = false
  fR1 : W.frozen? ⟨w.heap.size + 1, 1, none⟩ = false
  kV0 : W.cell? ⟨V, 0, none⟩ = some (.bool (sgn q))
  kV1 : W.cell? ⟨V, 1, none⟩ = some (.slice av (lms q).length cv)
  fV0 : W.frozen? ⟨V, 0, none⟩ = false
  fV1 : W.frozen? ⟨V, 1, none⟩ = false
  zV : V < W.heap.size
  own : Own W base av (lms q).length cv (lms q)
  bel : Below w.heap.size w W
/-- a new number, made behind, is stored in the box V -/
theorem PSt.store {w W W' : World} {base V : Nat} {z q r : Int} {a : Option Addr} {ca : Nat} {av : Option Addr} {cv : Nat} {ar : Option Addr} {cr : Nat} (h : PSt w W base V z q a ca av cv) (hb : Below W.heap.size W W') (hN : Own W' W.heap.size ar (lms r).length cr (lms r)) (hV : w.heap.size + 2 ≤ V) (hbW : base ≤ W.heap.size) :
    PSt w ((W'.setCell ⟨V, 0, none⟩ (.bool (sgn r))).setCell ⟨V, 1, none⟩ (.slice ar (lms r).length cr)) base V z r a ca ar cr := by
  have hz := h.zV
  have hzw := h.bel.size
  have hbs := hb.size
  have c (p : Addr) (hp : p.block < W.heap.size) (hne : p.block ≠ V) : ((W'.setCell ⟨V, 0, none⟩ (.bool (sgn r))).setCell ⟨V, 1, none⟩ (.slice ar (lms r).length cr)).cell? p = W.cell? p :=
    (World.cell?_of_block ((Below.heap_setCell _ ⟨V, 1, none⟩ _ p.block hne).trans (Below.heap_setCell _ ⟨V, 0, none⟩ _ p.block hne))).trans (hb.cell hp)
  have f (p : Addr) (hp : p.block < W.heap.size) (hne : p.block ≠ V) : ((W'.setCell ⟨V, 0, none⟩ (.bool (sgn r))).setCell ⟨V, 1, none⟩ (.slice ar (lms r).length cr)).frozen? p = W.frozen? p :=
    (World.frozen?_of_block ((Below.heap_setCell _ ⟨V, 1, none⟩ _ p.block hne).trans (Below.heap_setCell _ ⟨V, 0, none⟩ _ p.block hne))).trans (hb.frozen hp)
  have v0 := (hb.cell (p := ⟨V, 0, none⟩) hz).trans h.kV0
  have v1 := (hb.cell (p := ⟨V, 1, none⟩) hz).trans h.kV1
  have g0 := (hb.frozen (p := ⟨V, 0, none⟩) hz).trans h.fV0
  have g1 := (hb.frozen (p := ⟨V, 1, none⟩) hz).trans h.fV1
  refine ⟨(c ⟨w.heap.size, 0, none⟩ (by dsimp only; omega) (by dsimp only; omega)).trans h.kA0, (c ⟨w.heap.size, 1, none⟩ (by dsimp only; omega) (by dsimp only; omega)).trans h.kA1, (c ⟨w.heap.size + 1, 0, none⟩ (by dsimp only; omega) (by dsimp only; omega)).trans h.kR0, (c ⟨w.heap.size + 1, 1, none⟩ (by dsimp only; omega) (by dsimp only; omega)).trans h.kR1,
    (f ⟨w.heap.size + 1, 0, none⟩ (by dsimp only; omega) (by dsimp only; omega)).trans h.fR0, (f ⟨w.heap.size + 1, 1, none⟩ (by dsimp only; omega) (by dsimp only; omega)).trans h.fR1, by go_simp, by go_simp, by go_simp, by go_simp, by simp; omega, ?_, ?_⟩
  · exact ((hN.setCell (p := ⟨V, 0, none⟩) hz _).setCell (p := ⟨V, 1, none⟩) hz _).mono hbW
  · exact ((bl_trans h.bel hb).setCell (p := ⟨V, 0, none⟩) (by dsimp only; omega) _).setCell (p := ⟨V, 1, none⟩) (by dsimp only; omega) _

theorem lt_bits (n : Nat) (h : n < 18446744073709551616) : n < 2 ^ Lib.bitLen n := by
  induction n using Nat.strongRecOn with
  | _ n ih =>
    by_cases h0 : n = 0
    · subst h0; decide
    · rw [Lib.bitLen_half n h0 h, Nat.add_comm, Nat.pow_succ]
      have := ih (n / 2) (by omega) (by omega)
      omega
theorem and1 (n : Int) (h0 : 0 ≤ n) (h1 : n ≤ 100000) : bits .and .i64 n 1 = n % 2 := by
  have h255 : (BitVec.ofInt 64 1).toNat = 2 ^ 1 - 1 := by decide
  have key : (BitVec.ofInt 64 n &&& BitVec.ofInt 64 1).toNat = (n % ((2 ^ 64 : Nat) : Int)).toNat % 2 ^ 1 := by
    rw [BitVec.toNat_and, BitVec.toNat_ofInt, h255, Nat.and_two_pow_sub_one_eq_mod]
  show IntKind.i64.wrap ((BitVec.ofInt 64 n &&& BitVec.ofInt 64 1).toNat : Nat) = n % 2
  rw [key, IntKind.wrap_i64]
  omega
/-- a power by the bits ahead of place j, and one bit more -/
theorem pow_bit0 (z : Int) (n j : Nat) (h : n / 2 ^ j % 2 = 0) : z ^ (n / 2 ^ (j + 1)) * z ^ (n / 2 ^ (j + 1)) = z ^ (n / 2 ^ j) := by
  rw [← Int.pow_add]; congr 1
  rw [Nat.pow_succ, ← Nat.div_div_eq_div_mul]; omega
theorem pow_bit1 (z : Int) (n j : Nat) (h : n / 2 ^ j % 2 = 1) : z ^ (n / 2 ^ (j + 1)) * z ^ (n / 2 ^ (j + 1)) * z = z ^ (n / 2 ^ j) := by
  rw [← Int.pow_add, ← Int.pow_succ]; congr 1
  rw [Nat.pow_succ, ← Nat.div_div_eq_div_mul]; omega

set_option maxHeartbeats 4000000 in
set_option maxRecDepth 20000 in
theorem powI (v1 : Value) (z : Int) (n : Nat) (w : World) (h1 : Is w v1 z) (hn : n ≤ 100000) (hl : ∀ j, j ≤ n → (lms (z ^ j)).length ≤ 250000) :
    Calls Try.prog 33 #[v1, .int .i64 n] w fun e w' => ∃ v, e = .returned v ∧ New w' w.heap.size v (z ^ n) ∧ Below w.heap.size w w' := by
  obtain ⟨a, ca, rfl, ha⟩ := h1
  have HA := hide ha
  clear ha
  go_enter Try.func33, Try.ntmps33
  go_wp2_with fail
  have HZ := hide (bl_alloc (bl_alloc (bl_refl w) (Obj.cells #[Value.bool (sgn z), Value.slice a (lms z).length ca] 26)) (Obj.cells #[Value.bool false, Value.slice none 0 0] 26))
  have kA0 : ((w.alloc (Obj.cells #[Value.bool (sgn z), Value.slice a (lms z).length ca] 26)).alloc (Obj.cells #[Value.bool false, Value.slice none 0 0] 26)).cell? ⟨w.heap.size, 0, none⟩ = some (.bool (sgn z)) := by go_simp
  have kA1 : ((w.alloc (Obj.cells #[Value.bool (sgn z), Value.slice a (lms z).length ca] 26)).alloc (Obj.cells #[Value.bool false, Value.slice none 0 0] 26)).cell? ⟨w.heap.size, 1, none⟩ = some (.slice a (lms z).length ca) := by go_simp
  have kR0 : ((w.alloc (Obj.cells #[Value.bool (sgn z), Value.slice a (lms z).length ca] 26)).alloc (Obj.cells #[Value.bool false, Value.slice none 0 0] 26)).cell? ⟨w.heap.size + 1, 0, none⟩ = some (.bool false) := by go_simp
  have kR1 : ((w.alloc (Obj.cells #[Value.bool (sgn z), Value.slice a (lms z).length ca] 26)).alloc (Obj.cells #[Value.bool false, Value.slice none 0 0] 26)).cell? ⟨w.heap.size + 1, 1, none⟩ = some (.slice none 0 0) := by go_simp
  have fR0 : ((w.alloc (Obj.cells #[Value.bool (sgn z), Value.slice a (lms z).length ca] 26)).alloc (Obj.cells #[Value.bool false, Value.slice none 0 0] 26)).frozen? ⟨w.heap.size + 1, 0, none⟩ = false := by go_simp
  have fR1 : ((w.alloc (Obj.cells #[Value.bool (sgn z), Value.slice a (lms z).length ca] 26)).alloc (Obj.cells #[Value.bool false, Value.slice none 0 0] 26)).frozen? ⟨w.heap.size + 1, 1, none⟩ = false := by go_simp
  have zz : w.heap.size + 2 = ((w.alloc (Obj.cells #[Value.bool (sgn z), Value.slice a (lms z).length ca] 26)).alloc (Obj.cells #[Value.bool false, Value.slice none 0 0] 26)).heap.size := by simp only [World.size_alloc]
  generalize (w.alloc (Obj.cells #[Value.bool (sgn z), Value.slice a (lms z).length ca] 26)).alloc (Obj.cells #[Value.bool false, Value.slice none 0 0] 26) = w1 at *
  refine (fromI 1 _ (by decide) (by decide)).mono ?_
  rintro e w2 ⟨v2, rfl, ⟨a2, c2, rfl, ho2⟩, hb2⟩
  have q2 := hb2.size
  have hP : PSt w (w2.alloc (Obj.cells #[Value.bool (sgn 1), Value.slice a2 (lms 1).length c2] 26)) w1.heap.size w2.heap.size z 1 a ca a2 c2 := by
    have hbl := bl_trans hb2 (bl_alloc (bl_refl w2) (Obj.cells #[Value.bool (sgn 1), Value.slice a2 (lms 1).length c2] 26))
    exact ⟨(hbl.cell (p := ⟨w.heap.size, 0, none⟩) (by dsimp only; omega)).trans kA0, (hbl.cell (p := ⟨w.heap.size, 1, none⟩) (by dsimp only; omega)).trans kA1, (hbl.cell (p := ⟨w.heap.size + 1, 0, none⟩) (by dsimp only; omega)).trans kR0, (hbl.cell (p := ⟨w.heap.size + 1, 1, none⟩) (by dsimp only; omega)).trans kR1, (hbl.frozen (p := ⟨w.heap.size + 1, 0, none⟩) (by dsimp only; omega)).trans fR0, (hbl.frozen (p := ⟨w.heap.size + 1, 1, none⟩) (by dsimp only; omega)).trans fR1, by go_simp, by go_simp, by go_simp, by go_simp, by simp only [World.size_alloc]; omega, ho2.below (bl_alloc (bl_refl w2) _), bl_trans HZ.out hbl⟩
  have HP := hide hP
  have hVw : w.heap.size + 2 ≤ w2.heap.size := by omega
  have hBW : w1.heap.size ≤ w2.heap.size := q2
  clear hP kA0 kA1 kR0 kR1 fR0 fR1 ho2 hb2
  have hL64 := Lib.bitLen_le n 64 (by omega) (by omega)
  have HLN := hide (Nat.lt_of_lt_of_le (show n < 2 ^ 64 by omega) (Nat.le_refl _))
  go_wp2_with (go_at_call 64; refine (Try.bits_Len n _ (by omega) (by omega)).mono ?_; rintro e w5 ⟨rfl, hw5⟩; subst w5)
  go_loopw [6] (fun i wr => ∃ (j : Nat) (av : Option Addr) (cv : Nat), j ≤ Lib.bitLen n ∧ i = .int .i64 ((j : Int) - 1) ∧ Hid (PSt w wr w1.heap.size w2.heap.size z (z ^ (n / 2 ^ j)) a ca av cv)) (fun i _ => (intOf i + 1).toNat)
  case atStart =>
    refine ⟨Lib.bitLen n, a2, c2, Nat.le_refl _, by go_num, ?_⟩
    have e : n / 2 ^ Lib.bitLen n = 0 := Nat.div_eq_of_lt (lt_bits n (by omega))
    rw [e, Int.pow_zero]
    exact HP
  case round =>
    obtain ⟨j, av, cv, hj, rfl, hP⟩ := hrel
    by_cases h0 : j = 0
    · subst h0
      rw [show n / 2 ^ 0 = n by simp] at hP
      obtain ⟨kA0, kA1, kR0, kR1, fR0, fR1, kV0, kV1, fV0, fV1, zV, own, bel⟩ := hP.out
      have HO := hide own
      have HB := hide bel
      clear own bel
      go_wp2
      refine bodyPost_ret (v := .agg #[.bool (sgn (z ^ n)), .slice av (lms (z ^ n)).length cv]) (by simp [results, Try.results33, go_sem, *]) rfl ?_
      refine ⟨_, rfl, ⟨av, cv, rfl, ?_⟩, ?_⟩
      · exact ((HO.out.setCell (p := ⟨w.heap.size + 1, 0, none⟩) (by dsimp only; omega) _).setCell (p := ⟨w.heap.size + 1, 1, none⟩) (by dsimp only; omega) _).mono (by omega)
      · exact (HB.out.setCell (p := ⟨w.heap.size + 1, 0, none⟩) (by dsimp only; omega) _).setCell (p := ⟨w.heap.size + 1, 1, none⟩) (by dsimp only; omega) _
    · obtain ⟨i, rfl⟩ : ∃ i, j = i + 1 := ⟨j - 1, by omega⟩
      have ei : (((i + 1 : Nat) : Int) - 1) = (i : Int) := by omega
      rw [ei]
      have hlq : (lms (z ^ (n / 2 ^ (i + 1)))).length ≤ 250000 := hl _ (Nat.div_le_self _ _)
      obtain ⟨kA0, kA1, kR0, kR1, fR0, fR1, kV0, kV1, fV0, fV1, zV, own, bel⟩ := hP.out
      have HO := hide own
      have HB := hide bel
      clear own bel
      go_wp2_with fail
      refine (prodI (.agg #[.bool (sgn (z ^ (n / 2 ^ (i + 1)))), .slice av (lms (z ^ (n / 2 ^ (i + 1)))).length cv]) (.agg #[.bool (sgn (z ^ (n / 2 ^ (i + 1)))), .slice av (lms (z ^ (n / 2 ^ (i + 1)))).length cv]) (sgn (z ^ (n / 2 ^ (i + 1)))) (sgn (z ^ (n / 2 ^ (i + 1)))) _ _ _ ⟨av, cv, rfl, HO.out.seg⟩ ⟨av, cv, rfl, HO.out.seg⟩ (Nat.le_trans hlq (by decide)) (Nat.le_trans hlq (by decide))).mono ?_
      rintro e w6 ⟨v6, rfl, hn6, hb6⟩
      rw [mk_self] at hn6
      obtain ⟨a6, c6, rfl, ho6⟩ := hn6
      have hP6 := hP.out.store hb6 ho6 hVw (by have := zV; omega)
      have v0 := (hb6.cell (p := ⟨w2.heap.size, 0, none⟩) zV).trans kV0
      have v1 := (hb6.cell (p := ⟨w2.heap.size, 1, none⟩) zV).trans kV1
      have g0 := (hb6.frozen (p := ⟨w2.heap.size, 0, none⟩) zV).trans fV0
      have g1 := (hb6.frozen (p := ⟨w2.heap.size, 1, none⟩) zV).trans fV1
      have HP6 := hide hP6
      clear hP6 hb6 ho6 kA0 kA1 kR0 kR1 fR0 fR1 kV0 kV1 fV0 fV1 HO HB hP
      go_upto_region 6 with fail
      generalize (w6.setCell ⟨w2.heap.size, 0, none⟩ (Value.bool (sgn (z ^ (n / 2 ^ (i + 1)) * z ^ (n / 2 ^ (i + 1)))))).setCell ⟨w2.heap.size, 1, none⟩ (Value.slice a6 (lms (z ^ (n / 2 ^ (i + 1)) * z ^ (n / 2 ^ (i + 1)))).length c6) = w7 at *
      clear v0 v1 g0 g1
      have hnn : (n : Int) / 2 ^ i = ((n / 2 ^ i : Nat) : Int) := by rw [Int.natCast_ediv, Int.natCast_pow]; rfl
      have hbit : bits BinOp.and IntKind.i64 ((n : Int) / 2 ^ i) 1 = ((n / 2 ^ i % 2 : Nat) : Int) := by
        have hle := Nat.div_le_self n (2 ^ i)
        rw [hnn]
        generalize n / 2 ^ i = m at *
        rw [and1 _ (Int.natCast_nonneg _) (by omega)]; omega
      clear hnn
      rcases Nat.mod_two_eq_zero_or_one (n / 2 ^ i) with hz2 | hz2
      · rw [hz2] at hbit
        rw [pow_bit0 z n i hz2] at HP6
        go_wp2
        exact ⟨⟨i, a6, c6, by omega, by go_num, HP6⟩, by simp [intOf]⟩
      · rw [hz2] at hbit
        obtain ⟨kA0, kA1, kR0, kR1, fR0, fR1, kV0, kV1, fV0, fV1, zV, own, bel⟩ := HP6.out
        have HO := hide own
        have HB := hide bel
        clear own bel
        have hlz : (lms z).length ≤ 250000 := by
          have hn1 : 1 ≤ n := by
            refine Classical.byContradiction fun hc => ?_
            have : n = 0 := by omega
            subst this; simp at hz2
          have := hl 1 hn1
          rwa [Int.pow_one] at this
        have hlqq : (lms (z ^ (n / 2 ^ (i + 1)) * z ^ (n / 2 ^ (i + 1)))).length ≤ 250000 := by
          rw [← Int.pow_add]
          refine hl _ ?_
          have h2 : n / 2 ^ (i + 1) = n / 2 ^ i / 2 := by rw [Nat.pow_succ, ← Nat.div_div_eq_div_mul]
          have := Nat.div_le_self n (2 ^ i)
          omega
        go_wp2_with fail
        refine (prodI (.agg #[.bool (sgn (z ^ (n / 2 ^ (i + 1)) * z ^ (n / 2 ^ (i + 1)))), .slice a6 (lms (z ^ (n / 2 ^ (i + 1)) * z ^ (n / 2 ^ (i + 1)))).length c6]) (.agg #[.bool (sgn z), .slice a (lms z).length ca]) (sgn (z ^ (n / 2 ^ (i + 1)) * z ^ (n / 2 ^ (i + 1)))) (sgn z) _ _ _ ⟨a6, c6, rfl, HO.out.seg⟩ ⟨a, ca, rfl, HA.out.below HB.out⟩ (Nat.le_trans hlqq (by decide)) (Nat.le_trans hlz (by decide))).mono ?_
        rintro e w8 ⟨v8, rfl, hn8, hb8⟩
        rw [mk_self, mk_self, pow_bit1 z n i hz2] at hn8
        obtain ⟨a8, c8, rfl, ho8⟩ := hn8
        have HP8 := hide (HP6.out.store hb8 ho8 hVw (by have := zV; omega))
        have v0 := (hb8.cell (p := ⟨w2.heap.size, 0, none⟩) zV).trans kV0
        have v1 := (hb8.cell (p := ⟨w2.heap.size, 1, none⟩) zV).trans kV1
        have g0 := (hb8.frozen (p := ⟨w2.heap.size, 0, none⟩) zV).trans fV0
        have g1 := (hb8.frozen (p := ⟨w2.heap.size, 1, none⟩) zV).trans fV1
        clear hb8 ho8 kA0 kA1 kR0 kR1 fR0 fR1 kV0 kV1 fV0 fV1 HO HB HP6
        go_wp2
        exact ⟨⟨i, a8, c8, by omega, by go_num, HP8⟩, by simp [intOf]⟩
end Go.Proofs.Ythjapjbiclkhcaa

/- Plain facts on a number's bits and on powers. -/
namespace Go.Proofs.Ythjapjbiclkhcaa
open Go.RowKit
set_option linter.unusedVariables false

theorem bits_low0 (n : Nat) (h : n < 18446744073709551616) (h0 : n ≠ 0) : 2 ^ (Lib.bitLen n - 1) ≤ n := by
  induction n using Nat.strongRecOn with
  | _ n ih =>
    rw [Lib.bitLen_half n h0 h, Nat.add_sub_cancel_left]
    by_cases h2 : n / 2 = 0
    · rw [h2, show Lib.bitLen 0 = 0 from rfl]; simp; omega
    · have := ih (n / 2) (by omega) (by omega) h2
      have hp : 1 ≤ Lib.bitLen (n / 2) := by rw [Lib.bitLen_half (n / 2) h2 (by omega)]; omega
      have e : Lib.bitLen (n / 2) = (Lib.bitLen (n / 2) - 1) + 1 := by omega
      rw [e, Nat.pow_succ]
      omega
theorem pow32 (k : Nat) : 4294967296 ^ k = 2 ^ (32 * k) := by rw [Nat.pow_mul]
/-- a number stands between the powers that its bits say -/
theorem bits_bounds (xs : List Nat) (hs : Num.Small xs) (h0 : xs.length ≠ 0) (hl : xs.getD (xs.length - 1) 0 ≠ 0) :
    ∃ b : Nat, bitsN xs = (b : Int) + 1 ∧ 2 ^ b ≤ Num.nat xs ∧ Num.nat xs < 2 ^ (b + 1) ∧ b + 1 ≤ 32 * xs.length := by
  obtain ⟨k, hk⟩ : ∃ k, xs.length = k + 1 := ⟨xs.length - 1, by omega⟩
  have hlt : k < xs.length := by omega
  have eL : xs.getD (xs.length - 1) 0 = xs[k] := by rw [hk, Nat.add_sub_cancel]; simp [hlt]
  rw [eL] at hl
  have hL := Num.small_at hs hlt
  have hb1 := bits_low0 xs[k] (by omega) hl
  have hb2 := lt_bits xs[k] (by omega)
  have hb32 := Lib.bitLen_le xs[k] 32 (by omega) (by omega)
  have hbp : 1 ≤ Lib.bitLen xs[k] := by rw [Lib.bitLen_half _ hl (by omega)]; omega
  have hnat : Num.nat xs = Num.nat (xs.take k) + 4294967296 ^ k * xs[k] := by
    have := Num.nat_take_succ xs k hlt
    rwa [List.take_of_length_le (by omega)] at this
  have htk : Num.nat (xs.take k) < 4294967296 ^ k := by
    have := Num.nat_lt (Num.small_take hs k)
    rwa [List.length_take, Nat.min_eq_left (by omega)] at this
  refine ⟨32 * k + (Lib.bitLen xs[k] - 1), ?_, ?_, ?_, by omega⟩
  · unfold bitsN
    rw [if_neg h0, eL, hk]
    push_cast
    omega
  · rw [Nat.pow_add, ← pow32, hnat]
    exact Nat.le_trans (Nat.mul_le_mul_left _ hb1) (Nat.le_add_left _ _)
  · rw [show 32 * k + (Lib.bitLen xs[k] - 1) + 1 = 32 * k + Lib.bitLen xs[k] by omega, Nat.pow_add, ← pow32, hnat]
    have h1 : 4294967296 ^ k * (xs[k] + 1) ≤ 4294967296 ^ k * 2 ^ Lib.bitLen xs[k] := Nat.mul_le_mul_left _ hb2
    rw [Nat.mul_add, Nat.mul_one] at h1
    omega
theorem pow_mono {a b k : Nat} (h : a ≤ b) : a ^ k ≤ b ^ k := Nat.pow_le_pow_left h k
theorem abs_pow (z : Int) (n : Nat) : (z ^ n).natAbs = z.natAbs ^ n := Int.natAbs_pow z n
theorem pow_big0 {e b n x : Nat} (hb : 2 ^ b ≤ x) (h : e ≤ b * n) : 2 ^ e ≤ x ^ n := by
  have h1 : 2 ^ (b * n) ≤ x ^ n := by rw [Nat.pow_mul]; exact pow_mono hb
  exact Nat.le_trans (Nat.pow_le_pow_right (by decide) h) h1
theorem pow_big1 {k b n x : Nat} (hb : 2 ^ b ≤ x) (h : 32 * k ≤ b * n) : ¬ x ^ n < 4294967296 ^ k := by
  rw [pow32]; exact Nat.not_lt.2 (pow_big0 hb h)
/-- too many bits: the power isn't right -/
theorem pow_big {z : Int} {b n : Nat} (hb : 2 ^ b ≤ z.natAbs) (h : 1280 ≤ b * n) : fits (z ^ n) = false := by
  unfold fits
  refine decide_eq_false ?_
  rw [abs_pow]
  exact pow_big1 hb (Nat.le_trans (by decide) h)
theorem pow_len {z : Int} {b j : Nat} (hb : z.natAbs ≤ 2 ^ b) (h : b * j ≤ 100000) : (lms (z ^ j)).length ≤ 250000 := by
  have h1 : (z ^ j).natAbs ≤ 2 ^ (b * j) := by rw [abs_pow, Nat.pow_mul]; exact pow_mono hb
  have h2 : (z ^ j).natAbs < 4294967296 ^ (b * j + 1) := by
    have h3 : 2 ^ (b * j) ≤ 4294967296 ^ (b * j) := pow_mono (by decide)
    have h4 : 4294967296 ^ (b * j) < 4294967296 ^ (b * j + 1) := Nat.pow_lt_pow_right (by decide) (Nat.lt_succ_self _)
    exact Nat.lt_of_le_of_lt (Nat.le_trans h1 h3) h4
  exact Nat.le_trans (Num.limbs_len.2 h2) (by omega)
end Go.Proofs.Ythjapjbiclkhcaa

/- Roots by halves and by Newton's step: numbers alone. -/
namespace Go.Proofs.Ythjapjbiclkhcaa
open Go.RowKit
set_option linter.unusedVariables false

/-- r is the root of x by k, rounded down -/
def Root (k x r : Nat) : Prop := r ^ k ≤ x ∧ x < (r + 1) ^ k
theorem root_one {k x r s : Nat} (h1 : Root k x r) (h2 : Root k x s) : r = s := by
  have a : ¬ r < s := fun h => by
    have : (r + 1) ^ k ≤ s ^ k := Nat.pow_le_pow_left h k
    have := h1.2; have := h2.1; omega
  have b : ¬ s < r := fun h => by
    have : (s + 1) ^ k ≤ r ^ k := Nat.pow_le_pow_left h k
    have := h1.1; have := h2.2; omega
  omega
theorem sq_nonneg (a : Int) : 0 ≤ a * a := by
  rcases Int.le_total 0 a with h | h
  · exact Int.mul_nonneg h h
  · exact Int.mul_nonneg_of_nonpos_of_nonpos h h
theorem newton_ineq (s r : Int) (hs : 0 ≤ s) (hr : 0 ≤ r) (k : Nat) : ((k : Int) + 1) * (s * r ^ k) ≤ s ^ (k + 1) + k * r ^ (k + 1) := by
  induction k with
  | zero => rw [Int.pow_succ]; simp
  | succ k ih =>
    have h1 : 0 ≤ s * (s ^ (k + 1) + k * r ^ (k + 1) - ((k : Int) + 1) * (s * r ^ k)) := Int.mul_nonneg hs (by omega)
    have h2 : 0 ≤ ((k : Int) + 1) * (r ^ k * ((r - s) * (r - s))) := Int.mul_nonneg (by omega) (Int.mul_nonneg (Int.pow_nonneg hr) (sq_nonneg _))
    have e : s ^ (k + 1 + 1) + ((k + 1 : Nat) : Int) * r ^ (k + 1 + 1) - (((k + 1 : Nat) : Int) + 1) * (s * r ^ (k + 1)) = s * (s ^ (k + 1) + k * r ^ (k + 1) - ((k : Int) + 1) * (s * r ^ k)) + ((k : Int) + 1) * (r ^ k * ((r - s) * (r - s))) := by
      rw [Int.pow_succ s (k + 1), Int.pow_succ s k, Int.pow_succ r (k + 1), Int.pow_succ r k]
      push_cast
      grind
    omega
/-- Newton's step stays at the root or above -/
theorem newton_low {k x r s : Nat} (hr : 0 < r) (h : s ^ (k + 1) ≤ x) : s ≤ (r * k + x / r ^ k) / (k + 1) := by
  rw [Nat.le_div_iff_mul_le (by omega)]
  have hp : 0 < r ^ k := Nat.pow_pos hr
  by_cases hc : s * (k + 1) ≤ r * k
  · exact Nat.le_trans hc (Nat.le_add_right _ _)
  · have hle : (s * (k + 1) - r * k) * r ^ k ≤ x := by
      refine Nat.le_trans ?_ h
      have := newton_ineq (s : Int) (r : Int) (by omega) (by omega) k
      have e : ((s * (k + 1) - r * k : Nat) : Int) = (s : Int) * (k + 1) - r * k := by
        rw [Int.ofNat_sub (by omega)]; push_cast; rfl
      have g : (((s * (k + 1) - r * k) * r ^ k : Nat) : Int) ≤ ((s ^ (k + 1) : Nat) : Int) := by
        rw [Int.natCast_mul, e]
        push_cast
        rw [Int.pow_succ (r : Int) k] at this
        grind
      exact Int.ofNat_le.1 g
    have := (Nat.le_div_iff_mul_le hp).2 hle
    omega
/-- where the step goes down no more, the root is not above -/
theorem newton_end {k x r : Nat} (hr : 0 < r) (h : r ≤ (r * k + x / r ^ k) / (k + 1)) : r ^ (k + 1) ≤ x := by
  rw [Nat.le_div_iff_mul_le (by omega)] at h
  have : r ≤ x / r ^ k := by rw [Nat.mul_add] at h; omega
  have := (Nat.le_div_iff_mul_le (Nat.pow_pos hr)).1 this
  rw [Nat.pow_succ, Nat.mul_comm]; exact this
/-- there is a root -/
theorem root_ex (k x : Nat) (hk : 0 < k) : ∃ s, Root k x s := by
  have : ∀ n, x < (n + 1) ^ k → ∃ s, Root k x s := by
    intro n
    induction n with
    | zero => intro h; exact ⟨0, by rw [Nat.zero_pow hk]; exact Nat.zero_le _, h⟩
    | succ n ih =>
      intro h
      by_cases hc : (n + 1) ^ k ≤ x
      · exact ⟨n + 1, hc, h⟩
      · exact ih (by omega)
  refine this x ?_
  exact Nat.lt_of_lt_of_le (Nat.lt_succ_self x) (Nat.le_self_pow (by omega) (x + 1))
/-- the last one of Newton's steps is the root -/
theorem newton_root {k x r s : Nat} (hr : 0 < r) (hs : Root (k + 1) x s) (h1 : s ≤ r) (h2 : r ≤ (r * k + x / r ^ k) / (k + 1)) : r = s := by
  have := newton_end hr h2
  have h3 : ¬ s < r := fun h => by
    have : (s + 1) ^ (k + 1) ≤ r ^ (k + 1) := Nat.pow_le_pow_left h _
    have := hs.2; omega
  omega
/-- a bit more of the root, from the top down -/
theorem half_step {k x r i : Nat} (h2 : x < (r + 2 ^ (i + 1)) ^ k) : ((r + 2 ^ i) ^ k ≤ x → x < (r + 2 ^ i + 2 ^ i) ^ k) ∧ (¬ (r + 2 ^ i) ^ k ≤ x → x < (r + 2 ^ i) ^ k) := by
  refine ⟨fun _ => ?_, fun h => by omega⟩
  rw [Nat.add_assoc, ← Nat.two_mul, Nat.mul_comm, ← Nat.pow_succ]; exact h2
theorem half_start {k x b : Nat} (hk : 0 < k) (h : x < 2 ^ b) : x < (0 + 2 ^ (b / k + 1)) ^ k := by
  rw [Nat.zero_add, ← Nat.pow_mul]
  refine Nat.lt_of_lt_of_le h (Nat.pow_le_pow_right (by decide) ?_)
  have := Nat.lt_div_mul_add hk (a := b)
  rw [Nat.add_mul]; omega
theorem newton_start {k x b s : Nat} (hk : 0 < k) (h : x < 2 ^ b) (hs : s ^ k ≤ x) : s ≤ 2 ^ ((b + k - 1) / k) := by
  refine Nat.le_of_not_lt fun hc => ?_
  have h1 : (2 ^ ((b + k - 1) / k)) ^ k ≤ s ^ k := Nat.pow_le_pow_left (Nat.le_of_lt hc) k
  rw [← Nat.pow_mul] at h1
  have h2 : b ≤ (b + k - 1) / k * k := by
    have := Nat.lt_div_mul_add hk (a := b + k - 1)
    omega
  have := Nat.pow_le_pow_right (n := 2) (by decide) h2
  omega
end Go.Proofs.Ythjapjbiclkhcaa

/- The walk of divideLong: long division by two limbs or more, in new memory. -/
namespace Go.Proofs.Ythjapjbiclkhcaa
open Go.RowKit
set_option linter.unusedVariables false

theorem guessI' (a b : Option Addr) (n ca cb : Nat) (ps ds : List Nat) (w : World) (ha : Seg w a (n + 1) ca ps) (hb : Seg w b n cb ds) (h1 : 1 ≤ n) (hn : n ≤ 1000000) (t p q : Nat) (ht : ds[n - 1]? = some t) (hp : ps[n]? = some p) (hq : ps[n - 1]? = some q) (h0 : t ≠ 0) :
    Calls Try.prog 101 #[.slice a (n + 1) ca, .slice b n cb] w fun e w' => e = .returned (.int .u32 ((min ((p * 4294967296 + q) / t) 4294967295 : Nat) : Int)) ∧ ∃ m, w' = w.drewN m := by
  obtain ⟨k, rfl⟩ : ∃ k, n = k + 1 := ⟨n - 1, by omega⟩
  exact guessI a b k ca cb ps ds w ha hb (by omega) t p q ht hp hq h0
theorem scale_of (B n t : Nat) (hl : (Num.limbs B).length = n) (hn : 1 ≤ n) (ht : (Num.limbs B)[n - 1]? = some t) :
    ∃ s : Nat, Op.shift .shl .u32 1 .i64 (32 - ((Lib.bitLen t : Nat) : Int)) = pure (.int .u32 (s : Int)) ∧ 0 < s ∧ s < 4294967296 ∧ B * s < 4294967296 ^ n ∧ 4294967296 ^ (n - 1) ≤ B := by
  obtain ⟨hlt, ht⟩ := List.getElem?_eq_some_iff.1 ht
  have hts := Num.small_at (Num.limbs_small B) hlt
  have hne : Num.limbs B ≠ [] := fun e => by rw [e] at hl; simp at hl; omega
  have h0 : t ≠ 0 := by
    have := Num.limbs_tidy B hne
    rw [List.getLast_eq_getElem] at this
    rw [← ht]
    simpa [hl] using this
  rw [ht] at hts
  have hb2 := lt_bits t (by omega)
  have hb32 := Lib.bitLen_le t 32 (by omega) (by omega)
  have hbp : 1 ≤ Lib.bitLen t := by rw [Lib.bitLen_half _ h0 (by omega)]; omega
  have hp31 : 2 ^ (32 - Lib.bitLen t) ≤ 2 ^ 31 := Nat.pow_le_pow_right (by decide) (by omega)
  refine ⟨2 ^ (32 - Lib.bitLen t), ?_, Nat.pow_pos (by decide), by omega, ?_, ?_⟩
  · refine (shift_shl_u32 (x := 1) (yk := .i64) (y := 32 - ((Lib.bitLen t : Nat) : Int)) (by omega) (by omega)).trans ?_
    rw [IntKind.wrap_u32]
    rw [show (32 - ((Lib.bitLen t : Nat) : Int)).toNat = 32 - Lib.bitLen t by omega]
    have e : (1 : Int) * 2 ^ (32 - Lib.bitLen t) = ((2 ^ (32 - Lib.bitLen t) : Nat) : Int) := by push_cast; omega
    rw [e]
    generalize 2 ^ (32 - Lib.bitLen t) = s at *
    rw [show (s : Int) % 4294967296 = s by omega]
  · refine Num.scale_fit (t := t) ?_ hn hb2 hb32 rfl
    have e := Num.nat_take_drop (Num.limbs B) (n - 1) (by omega)
    rw [Num.nat_limbs, Num.nat_drop _ _ hlt, ht, List.drop_eq_nil_of_le (by omega)] at e
    have h2 := Num.nat_lt (Num.small_take (Num.limbs_small B) (n - 1))
    rw [List.length_take, Nat.min_eq_left (by omega)] at h2
    rw [show Num.nat [] = 0 from rfl] at e
    rw [Nat.add_mul, Nat.one_mul, Nat.mul_comm t]
    rw [show t + 4294967296 * 0 = t by omega] at e
    omega
  · have := Num.top_le hlt
    rw [ht, Num.nat_limbs] at this
    have h3 : 1 * 4294967296 ^ (n - 1) ≤ t * 4294967296 ^ (n - 1) := Nat.mul_le_mul_right _ (by omega)
    omega
theorem guess_facts {pl dl : List Nat} {n : Nat} (hn : 1 ≤ n) (hp : pl.length = n + 1) (hd : dl.length = n) (sp : Num.Small pl) (sd : Num.Small dl) (hlow : 4294967296 ^ (n - 1) ≤ Num.nat dl) (hP : Num.nat pl < 4294967296 * Num.nat dl) :
    ∃ t p q g, dl[n - 1]? = some t ∧ pl[n]? = some p ∧ pl[n - 1]? = some q ∧ t ≠ 0 ∧ min ((p * 4294967296 + q) / t) 4294967295 = g ∧ g < 4294967296 ∧ Num.nat pl / Num.nat dl ≤ g := by
  obtain ⟨k, rfl⟩ : ∃ k, n = k + 1 := ⟨n - 1, by omega⟩
  rw [Nat.add_sub_cancel] at *
  have h1 : k < dl.length := by omega
  have h2 : k + 1 < pl.length := by omega
  have h3 : k < pl.length := by omega
  have hD0 : 0 < Num.nat dl := Nat.lt_of_lt_of_le (Num.pow_pos' k) hlow
  have ht : dl[k] ≠ 0 := by
    intro e
    have e2 := Num.nat_take_drop dl k (by omega)
    rw [Num.nat_drop dl k h1, e, List.drop_eq_nil_of_le (by omega)] at e2
    have h4 := Num.nat_lt (Num.small_take sd k)
    rw [List.length_take, Nat.min_eq_left (by omega)] at h4
    simp [Num.nat] at e2
    omega
  refine ⟨dl[k], pl[k + 1], pl[k], _, by simp [h1], by simp [h2], by simp [h3], ht, rfl, by omega, ?_⟩
  have h5 : Num.nat pl / Num.nat dl ≤ (pl[k + 1] * 4294967296 + pl[k]) / dl[k] := Num.guess_ge (Num.pow_pos' k) (by omega) (Num.ends_up sp (by omega) h3 h2) (Num.top_le h1)
  have h6 : Num.nat pl / Num.nat dl < 4294967296 := by rw [Nat.div_lt_iff_lt_mul hD0]; exact hP
  exact Nat.le_min.2 ⟨h5, by omega⟩
theorem sofar_first {pl zs Z : List Nat} {n c P E : Nat} (h : Sofar true pl zs Z (n + 1) c) (hp : pl.length = n + 1) (hz : zs.length = n + 1) (hP : Num.nat pl = P) (hE : Num.nat zs = E) :
    Z.length = n + 1 ∧ Num.Small Z ∧ Num.nat Z + E = P + 4294967296 ^ (n + 1) * (1 - c) := by
  obtain ⟨h1, h2, h3, h4⟩ := h
  refine ⟨h1, h2, ?_⟩
  rw [if_pos rfl, List.take_of_length_le (by omega), List.take_of_length_le (by omega), hP, hE] at h4
  generalize 4294967296 ^ (n + 1) = M at *
  rcases zero_or_one h3 with rfl | rfl
  · rw [Nat.mul_zero] at h4; rw [Nat.sub_zero, Nat.mul_one]; omega
  · rw [Nat.mul_one] at h4; rw [Nat.sub_self, Nat.mul_zero]; omega
theorem sofar_back {Z ds Z' : List Nat} {n c z D : Nat} (h : Sofar false Z ds Z' (n + 1) c) (hp : Z.length = n + 1) (hz : ds.length = n) (hP : Num.nat Z = z) (hE : Num.nat ds = D) :
    Z'.length = n + 1 ∧ Num.Small Z' ∧ c ≤ 1 ∧ Num.nat Z' + 4294967296 ^ (n + 1) * c = z + D := by
  obtain ⟨h1, h2, h3, h4⟩ := h
  refine ⟨h1, h2, h3, ?_⟩
  rw [if_neg (by simp), List.take_of_length_le (by omega), List.take_of_length_le (by omega), hP, hE] at h4
  exact h4
theorem mid_drop {R Z : List Nat} {j l : Nat} (hz : Z.length = l) (hl : j + l ≤ R.length) : ((R.take j ++ Z ++ R.drop (j + l)).drop j).take l = Z := by
  have hk : (R.take j).length = j := by rw [List.length_take]; omega
  rw [List.append_assoc, List.drop_append_of_le_length (by omega), List.drop_eq_nil_of_le (by omega), List.nil_append, List.take_append_of_le_length (by omega), List.take_of_length_le (by omega)]
theorem mid_again {R Z Z' : List Nat} {j l : Nat} (hz : Z.length = l) (hl : j + l ≤ R.length) : (R.take j ++ Z ++ R.drop (j + l)).take j ++ Z' ++ (R.take j ++ Z ++ R.drop (j + l)).drop (j + l) = R.take j ++ Z' ++ R.drop (j + l) := by
  have hk : (R.take j).length = j := by rw [List.length_take]; omega
  have e1 : (R.take j ++ Z ++ R.drop (j + l)).take j = R.take j := by
    rw [List.append_assoc, List.take_append_of_le_length (by omega), List.take_of_length_le (by omega)]
  have e2 : (R.take j ++ Z ++ R.drop (j + l)).drop (j + l) = R.drop (j + l) := by
    rw [List.drop_append_of_le_length (by rw [List.length_append]; omega), List.drop_eq_nil_of_le (by rw [List.length_append]; omega), List.nil_append]
  rw [e1, e2]
theorem one_less {c : Nat} (h : c ≤ 1) : Value.int .u32 (1 - (c : Int)) = .int .u32 ((1 - c : Nat) : Int) := by
  rcases zero_or_one h with rfl | rfl <;> rfl
theorem short_exact {s r q R : Nat} (h : R * s = q * s + r) (hr : r < s) : q = R := by
  have h1 : (q * s + r) / s = q := by rw [Nat.mul_comm, Nat.mul_add_div (by omega), Nat.div_eq_of_lt hr]; omega
  rw [← h, Nat.mul_div_cancel _ (by omega)] at h1
  exact h1.symm
/-- the list that is divided, and the divisor, each times the scale -/
def LCut (w wc : World) (g1 g2 la n A B s : Nat) (rs ds : List Nat) : Prop :=
  g1 ≠ g2 ∧ w.heap.size ≤ g1 ∧ w.heap.size ≤ g2 ∧ Blk wc g1 rs ∧ Blk wc g2 ds ∧ rs.length = la + 1 ∧ ds.length = n + 1 ∧ Num.nat rs = A * s ∧ Num.nat ds = B * s ∧ Below w.heap.size w wc

set_option maxHeartbeats 4000000 in
set_option maxRecDepth 20000 in
theorem longI (a b : Option Addr) (la n m ca cb A B : Nat) (w : World) (ha : Seg w a la ca (Num.limbs A)) (hb : Seg w b n cb (Num.limbs B)) (hn2 : 2 ≤ n) (hm : m + n = la + 1) (hm1 : 1 ≤ m) (hla : la ≤ 400000) :
    Calls Try.prog 94 #[.slice a la ca, .slice b n cb] w fun e w' => ∃ (g1 g2 : Nat) (qs rs : List Nat), e = .returned (.tuple #[.slice (some ⟨g1, 0, none⟩) m m, .slice (some ⟨g2, 0, none⟩) n n]) ∧ g1 ≠ g2 ∧ Own w' w.heap.size (some ⟨g1, 0, none⟩) m m qs ∧ Own w' w.heap.size (some ⟨g2, 0, none⟩) n n rs ∧ Num.nat qs = A / B ∧ Num.nat rs = A % B ∧ Below w.heap.size w w' := by
  obtain ⟨i0, hi, hz0, hz1, hz2⟩ := info_parts Try.info56
  have hca := ha.2.1
  have hcm := ha.2.2.1
  have hcb := hb.2.1
  have hcbm := hb.2.2.1
  have hbl := hb.1
  obtain ⟨gb, ob, rfl, hgb, hcell⟩ := seg_cell hb (n - 1) (by omega)
  obtain ⟨t, ht⟩ : ∃ t, (Num.limbs B)[n - 1]'(by omega) = t := ⟨_, rfl⟩
  have hts := Num.small_at hb.2.2.2.1 (show n - 1 < (Num.limbs B).length by omega)
  rw [ht] at hcell hts
  have HA := hide ha
  have HB := hide hb
  have HT : Hid ((Num.limbs B)[n - 1]? = some t) := hide (List.getElem?_eq_some_iff.2 ⟨by omega, ht⟩)
  clear ha hb ht
  have HBL := hide hbl
  clear hbl
  obtain ⟨s, hsh, hs0, hs1, hfit, hlow⟩ := scale_of B n t HBL.out (by omega) HT.out
  have HFIT := hide hfit
  have HLOW := hide hlow
  have HSH := hide hsh
  have hn0 : (0 : Int) ≤ (n : Int) := by omega
  have hn1 : (n : Int) ≤ (n : Int) + 1 := by omega
  clear hfit hlow
  go_enter Try.func94, Try.ntmps94
  go_upto_region 3 with (go_at_call 99; refine (Try.bits_LeadingZeros32 (t : Int) _ (by omega) (by omega)).mono ?_; rintro e w1 ⟨rfl, hw⟩; subst w1)
  clear hsh
  go_region_held3 (fun w' => Hid (Below w.heap.size w w'))
    (first | exact hide ((bl_refl w).drew) | exact hide bA | exact hide bB)
    (first
      | (go_at_call_of 100 (Value.slice a la ca); refine (tlimbI a la ca s (Num.limbs A) _ (HA.out.below (Hid.out (by assumption))) (by omega) hs1).mono ?_; rintro e wA ⟨rs, rfl, hBA, hlA, hvA, hbA⟩; have bA : Below w.heap.size w wA := bl_trans (Hid.out (by assumption)) hbA)
      | (go_at_call_of 100 (Value.slice (some ⟨gb, ob, none⟩) n cb); refine (tlimbI _ n cb s (Num.limbs B) _ (HB.out.below (Hid.out (by assumption))) (by omega) hs1).mono ?_; rintro e wB ⟨ds, rfl, hBB, hlB, hvB, hbB⟩; have bB : Below w.heap.size w wB := bl_trans (Hid.out (by assumption)) hbB))
  have hC : LCut w wB w.heap.size wA.heap.size la n A B s rs ds := by
    have e : w.drew.heap.size = w.heap.size := rfl
    rw [e] at hBA
    exact ⟨by have := hBA.lt; omega, Nat.le_refl _, bA.size, hBA.below hbB, hBB, hlA, hlB, by rw [hvA, Num.nat_limbs], by rw [hvB, Num.nat_limbs], bB⟩
  have HC := hide hC
  clear hC hBA hBB hlA hlB hvA hvB hbA bA hbB bB
  obtain ⟨g2, hg2⟩ : ∃ g2, g2 = wA.heap.size := ⟨_, rfl⟩
  rw [← hg2] at HC ⊢
  have hmI : (la : Int) - (n : Int) + 1 = (m : Int) := by omega
  clear hg2 hn1
  go_wp2_with (at_make; refine wpList_make_full _ rfl _ _ 24 rfl wB.heap.size 56 i0 (.int .u32 0) 1 Try.underlying24 hi hz0 hz1 _ _ _ _ m rfl rfl rfl rfl (by rw [hz2]; omega) (by unfold maxLen; omega) (Nat.le_refl _) ?_; intro w3 hown hgrow; have HZ3 := hide (HC.out.2.2.2.2.2.2.2.2.2.grown hgrow HC.out.2.2.2.2.2.2.2.2.2.size (by simp)); have B1 := hide (HC.out.2.2.2.1.kept hgrow (by simp)); have B2 := hide (HC.out.2.2.2.2.1.kept hgrow (by simp)); have B3 := hide (own_made2 hown).blk; clear hown hgrow)
  obtain ⟨c1, c2, c3, c4, c5, c6, c7, c8, c9, c10⟩ := HC.out
  have l1 := c4.lt
  have l2 := c5.lt
  have HST := hide (Num.lso_start (n := n) (m := m) c4.2 c6 hm c8 (by have := Num.limbs_len (n := A) (k := la); rw [HA.out.1] at this; exact this.1 (Nat.le_refl _)) HLOW.out (by omega) hs0)
  have HC8 := hide c8
  have HC9 := hide c9
  clear c4 c5 c6 c8 c9 c10 HC
  obtain ⟨g3, hg3⟩ : ∃ g3, g3 = wB.heap.size := ⟨_, rfl⟩
  rw [← hg3] at B3 l1 l2 ⊢
  clear hg3
  go_loopw [11, 12, 13, 14] (fun i _ _ _ wr => ∃ (k : Nat) (R Q : List Nat), k ≤ m ∧ i = .int .i64 ((k : Int) - 1) ∧ Hid (Num.LSo (A * s) (B * s) n m R Q k) ∧ Hid (Blk wr w.heap.size R) ∧ Hid (Blk wr g2 ds) ∧ Hid (Blk wr g3 Q) ∧ Hid (Below w.heap.size w wr)) (fun i _ _ _ _ => (intOf i + 1).toNat)
  case atStart => exact ⟨m, rs, List.replicate m 0, Nat.le_refl _, by go_num, HST, B1, B2, B3, HZ3⟩
  case round =>
    obtain ⟨k, R, Q, hk, rfl, hS, hB1, hB2, hB3, hZ⟩ := hrel
    by_cases h0 : k = 0
    · subst h0
      have hle1 : (n : Int) ≤ (la : Int) + 1 := by omega
      obtain ⟨e1, e2, e3⟩ := Num.lso_end hS.out hs0 (Nat.lt_of_lt_of_le (Num.pow_pos' (n - 1)) HLOW.out)
      have hR := hS.out.1
      have hQ := hS.out.2.1
      have HE1 := hide e1
      have HE2 : Hid (Num.nat (R.take n) = A % B * s) := hide (by rw [Num.take_all (by omega) (Nat.lt_trans e3 HFIT.out), e2])
      have HSEG := hide (hB1.out.seg 0 n (la + 1) (by omega) (by omega) (by omega))
      rw [List.drop_zero] at HSEG
      clear e1 e2 e3
      go_wp2_with fail
      refine (shortI (some ⟨w.heap.size, 0, none⟩) n (la + 1) s (R.take n) _ HSEG.out (by omega) hs0 hs1).mono ?_
      rintro e w7 ⟨qs7, r7, rfl, hD7, ho7, hb7⟩
      have l3 := hB3.out.lt
      have HO3 := hide ((hB3.out.below hb7).own (base := w.heap.size) (by omega) (by omega))
      rw [hQ] at HO3
      have HO7 := hide (ho7.mono (base' := w.heap.size) hZ.out.size)
      have HV : Hid (Num.nat qs7 = A % B) := hide (by
        obtain ⟨_, _, h3, h4⟩ := hD7
        rw [List.drop_zero, List.drop_zero, HE2.out] at h4
        exact short_exact h4 h3)
      have HZ7 := hide (bl_trans hZ.out hb7)
      have hgne : g3 ≠ wr.heap.size := by omega
      clear hD7 ho7 hb7
      go_wp2
      go_ret2
      exact ⟨g3, _, Q, qs7, rfl, hgne, HO3.out, HO7.out, HE1.out, HV.out, HZ7.out⟩
    · obtain ⟨j, rfl⟩ : ∃ j, k = j + 1 := ⟨k - 1, by omega⟩
      have ej : (((j + 1 : Nat) : Int) - 1) = (j : Int) := by omega
      rw [ej]
      have hj0 : (0 : Int) ≤ (j : Int) := by omega
      have hj1 : (j : Int) ≤ (j : Int) + (n : Int) + 1 := by omega
      have hj2 : (j : Int) + (n : Int) + 1 ≤ (la : Int) + 1 := by omega
      have hj3 : ¬ la + 1 = j := by omega
      have hjl : j + n + 1 - j = n + 1 := by omega
      have hR := hS.out.1
      have hRs := hS.out.2.2.1
      have hQ := hS.out.2.1
      have HDV : Hid (Num.nat ((ds.drop 0).take n) = B * s) := hide (by rw [List.drop_zero, Num.take_all (by omega) (by rw [HC9.out]; exact HFIT.out)]; exact HC9.out)
      have hdl : ((ds.drop 0).take n).length = n := by simp; omega
      have hpl : ((R.drop j).take (n + 1)).length = n + 1 := by simp; omega
      have HP1 := hide (Num.lso_part hS.out (by omega) HFIT.out).1
      have HDP : Hid (0 < B * s) := hide (Nat.mul_pos (Nat.lt_of_lt_of_le (Num.pow_pos' (n - 1)) HLOW.out) hs0)
      obtain ⟨t2, p2, q2, g, et, ep, eq, ht0, hg, hgs, hge⟩ := guess_facts (pl := (R.drop j).take (n + 1)) (dl := (ds.drop 0).take n) (by omega) hpl hdl (Num.small_take (Num.small_drop hRs j) _) (Num.small_take (Num.small_drop hB2.out.2 0) _) (by rw [HDV.out]; exact Nat.le_trans HLOW.out (Nat.le_mul_of_pos_right _ hs0)) (by rw [HDV.out]; exact HP1.out)
      rw [HDV.out] at hge
      have HGE := hide hge
      have HSP := hide (hB1.out.seg j (n + 1) (la + 1 - j) (by omega) (by omega) (by omega))
      have HSD := hide (hB2.out.seg 0 n (n + 1) (by omega) (by omega) (by omega))
      have HG := hide hg
      have HET := hide et
      have HEP := hide ep
      have HEQ := hide eq
      have HDL := hide hdl
      have HPL := hide hpl
      have HRL := hide hR
      have HQL := hide hQ
      clear hge hg et ep eq hdl hpl hR hQ
      go_wp2_with fail
      refine (guessI' (some ⟨w.heap.size, j, none⟩) (some ⟨g2, 0, none⟩) n (la + 1 - j) (n + 1) ((R.drop j).take (n + 1)) ((ds.drop 0).take n) _ HSP.out HSD.out (by omega) (by omega) t2 p2 q2 HET.out HEP.out HEQ.out ht0).mono ?_
      rintro e w4 ⟨rfl, m4, hw4⟩
      rw [HG.out]
      have hb4 : Below wr.heap.size wr w4 := by rw [hw4]; exact below_drewN (bl_refl wr) m4
      replace hB1 := hide (hB1.out.below hb4)
      replace hB2 := hide (hB2.out.below hb4)
      replace hB3 := hide (hB3.out.below hb4)
      replace hZ := hide (bl_trans hZ.out hb4)
      replace HSD := hide (HSD.out.below hb4)
      clear hw4 hb4 HSP HET HEP HEQ HG
      go_wp2_with fail
      refine (tlimbI (some ⟨g2, 0, none⟩) n (n + 1) g ((ds.drop 0).take n) _ HSD.out (by omega) hgs).mono ?_
      rintro e w5 ⟨zs, rfl, hBz, hlz, hvz, hb5⟩
      have m1 := hB1.out.lt
      have m2 := hB2.out.lt
      have m3 := hB3.out.lt
      replace hB1 := hide (hB1.out.below hb5)
      replace hB2 := hide (hB2.out.below hb5)
      replace hB3 := hide (hB3.out.below hb5)
      replace hZ := hide (bl_trans hZ.out hb5)
      rw [HDV.out] at hvz
      have hsz := hBz.seg 0 (n + 1) (n + 1) (by omega) (by omega) (by omega)
      rw [List.drop_zero, List.take_of_length_le (by omega)] at hsz
      have HSZ := hide hsz
      have HVZ := hide hvz
      have HLZ := hide hlz
      clear hb5 hBz hsz hvz hlz HSD
      generalize w4.heap.size = g4 at *
      go_wp2_with fail
      refine (addI true w.heap.size j (n + 1) (la + 1 - j) R (some ⟨g4, 0, none⟩) (n + 1) (n + 1) zs _ hB1.out (by rw [HRL.out]; omega) (by omega) (by omega) HSZ.out (fun _ gb ob s e => by cases e; omega)).mono ?_
      rintro e w6 ⟨Z, c, hSo, rfl, hB6, hg6⟩
      have hc1 := hSo.2.2.1
      have HF := hide (sofar_first hSo HPL.out HLZ.out rfl HVZ.out)
      replace hB2 := hide (hB2.out.kept hg6 (by simp; omega))
      replace hB3 := hide (hB3.out.kept hg6 (by simp; omega))
      replace hZ := hide (hZ.out.grown hg6 hZ.out.size (fun q e => by cases e; exact Nat.le_refl _))
      have HB6 := hide hB6
      clear hSo hB6 hg6 hB1 HSZ HVZ HLZ
      rw [if_pos rfl, one_less hc1]
      have HL1 : Hid (1 - c ≤ 1) := hide (by omega)
      generalize 1 - c = l at *
      have HLL : Hid (l ≤ 1) := HL1
      go_wp2_with fail
      go_loopw [13, 14] (fun gv lv wx => ∃ (g l : Nat) (Z : List Nat), gv = .int .u32 g ∧ lv = .int .u32 l ∧ l ≤ 1 ∧ g < 4294967296 ∧ Hid (Num.nat ((R.drop j).take (n + 1)) / (B * s) ≤ g) ∧ Hid (Z.length = n + 1 ∧ Num.Small Z ∧ Num.nat Z + B * s * g = Num.nat ((R.drop j).take (n + 1)) + 4294967296 ^ (n + 1) * l) ∧ Hid (Blk wx w.heap.size (R.take j ++ Z ++ R.drop (j + (n + 1)))) ∧ Hid (Blk wx g2 ds) ∧ Hid (Blk wx g3 Q) ∧ Hid (Below w.heap.size w wx)) (fun gv _ _ => (intOf gv).toNat)
      case atStart => exact ⟨g, l, Z, rfl, rfl, HLL.out, hgs, HGE, HF, HB6, hB2, hB3, hZ⟩
      case round =>
        clear hB2 hB3 hZ HB6 HF HGE hgs HLL HL1
        obtain ⟨g, l, Z, rfl, rfl, hl1, hgs, HGE, HF, HB6, hB2, hB3, hZ⟩ := hrel
        by_cases hl : l = 1
        · subst hl
          have hlt : Num.nat Z < 4294967296 ^ (n + 1) := by have := Num.nat_lt HF.out.2.1; rwa [HF.out.1] at this
          have HSD := hide (hB2.out.seg 0 n (n + 1) (by omega) (by omega) (by omega))
          have HBK := hide (fun Z' c (h : Sofar false Z ((ds.drop 0).take n) Z' (n + 1) c) => (let q := sofar_back h HF.out.1 HDL.out rfl HDV.out; (⟨q.1, q.2.1, q.2.2.1, Num.back_step HF.out.2.2 hlt rfl q.2.2.2 q.2.2.1⟩ : Z'.length = n + 1 ∧ Num.Small Z' ∧ c ≤ 1 ∧ _)))
          have HYL : Hid ((R.take j ++ Z ++ R.drop (j + (n + 1))).length = R.length) := hide (mid_len HF.out.1 (by rw [HRL.out]; omega))
          have hg1 : (1 : Int) ≤ (g : Int) := by
            have h := HF.out.2.2
            refine Classical.byContradiction fun hc => ?_
            obtain rfl : g = 0 := by omega
            rw [Nat.mul_zero, Nat.mul_one] at h
            omega
          clear hlt
          go_wp2_with fail
          refine (addI false w.heap.size j (n + 1) (la + 1 - j) (R.take j ++ Z ++ R.drop (j + (n + 1))) (some ⟨g2, 0, none⟩) n (n + 1) ((ds.drop 0).take n) _ HB6.out (by rw [HYL.out, HRL.out]; omega) (by omega) (by omega) HSD.out (fun _ gb ob s e => by cases e; omega)).mono ?_
          rintro e w8 ⟨Z', c, hSo, rfl, hB8, hg8⟩
          rw [mid_drop HF.out.1 (by rw [HRL.out]; omega)] at hSo
          rw [mid_again HF.out.1 (by rw [HRL.out]; omega)] at hB8
          obtain ⟨z1, z2, z3, z4, z5, z6⟩ := HBK.out Z' c hSo
          replace hB2 := hide (hB2.out.kept hg8 (by simp; omega))
          replace hB3 := hide (hB3.out.kept hg8 (by simp; omega))
          replace hZ := hide (hZ.out.grown hg8 hZ.out.size (fun q e => by cases e; exact Nat.le_refl _))
          replace HB6 := hide hB8
          have HGE2 : Hid (Num.nat ((R.drop j).take (n + 1)) / (B * s) ≤ g - 1) := hide (by omega)
          have HF2 := hide (And.intro z1 (And.intro z2 z6))
          have hc0 : (0 : Int) ≤ (c : Int) := by omega
          have hc1 : (c : Int) ≤ 1 := by omega
          clear hSo hB8 hg8 z4 z6 z1 z2 HF HGE HBK HSD HYL
          rw [if_neg (by simp)]
          go_wp2
          exact ⟨⟨g - 1, 1 - c, Z', by go_num, one_less z3, by omega, by omega, HGE2, HF2, HB6, hB2, hB3, hZ⟩, by simp [intOf]; omega⟩
        · obtain rfl : l = 0 := by omega
          have hend := Num.back_end (by have := HF.out.2.2; rw [Nat.mul_zero, Nat.add_zero] at this; exact this) HDP.out HGE.out
          have HLS := hide (Num.lso_step hS.out (by omega) HFIT.out HDP.out HF.out.2.1 HF.out.1 hend.2)
          rw [← hend.1] at HLS
          have hcl := hB3.out.cell j (by rw [HQL.out]; omega)
          have hfz := hB3.out.frozen j
          have HSB := hide (hB3.out.set j g hgs)
          obtain ⟨y, hy⟩ : ∃ y, Q[j]'(by rw [HQL.out]; omega) = y := ⟨_, rfl⟩
          rw [hy] at hcl
          have hjm : (j : Int) < (m : Int) := by omega
          replace HB6 := hide (HB6.out.kept HSB.out.2 (by simp; omega))
          replace hB2 := hide (hB2.out.kept HSB.out.2 (by simp; omega))
          clear hend hy HF HGE hS hB3
          go_wp2
          exact ⟨⟨j, _, _, by omega, by go_num, HLS, HB6, hB2, hide HSB.out.1, hide (hZ.out.setCell (p := ⟨g3, j, none⟩) (by dsimp only; omega) _)⟩, by simp [intOf]⟩
end Go.Proofs.Ythjapjbiclkhcaa

/- The walks of l01In and l02Power: a number to a power, or one that isn't right where that isn't, in new memory. -/
namespace Go.Proofs.Ythjapjbiclkhcaa
open Go.RowKit
set_option linter.unusedVariables false

theorem inS (n a b : Int) (w : World) : Calls Try.prog 74 #[.int .i64 n, .int .i64 a, .int .i64 b] w fun e w' => e = .returned (.bool (decide (a ≤ n ∧ n ≤ b))) ∧ w' = w := by
  by_cases h1 : a ≤ n
  · by_cases h2 : n ≤ b
    · rw [decide_eq_true ⟨h1, h2⟩]
      go_enter Try.func74, Try.ntmps74
      go_wp2
      go_ret
      exact ⟨rfl, rfl⟩
    · rw [decide_eq_false (fun h => h2 h.2)]
      go_enter Try.func74, Try.ntmps74
      go_wp2
      go_ret
      exact ⟨rfl, rfl⟩
  · rw [decide_eq_false (fun h => h1 h.1)]
    go_enter Try.func74, Try.ntmps74
    go_wp2
    go_ret
    exact ⟨rfl, rfl⟩

/-- a power, or a number that isn't right where the power isn't -/
def PowLike (z : Int) (n : Nat) (q : Int) : Prop := q = z ^ n ∨ (4294967296 ^ 40 ≤ q.natAbs ∧ q.natAbs ≤ (z ^ n).natAbs ∧ (0 ≤ z → 0 ≤ q))
theorem PowLike.fitsE {z : Int} {n : Nat} {q : Int} (h : PowLike z n q) : fits q = fits (z ^ n) := by
  rcases h with rfl | ⟨h1, h2, _⟩
  · rfl
  · unfold Go.Proofs.Ythjapjbiclkhcaa.fits; rw [decide_eq_false (by omega), decide_eq_false (by omega)]
theorem PowLike.fitZE {z : Int} {n : Nat} {q : Int} (h : PowLike z n q) : fitZ q = fitZ (z ^ n) := by
  have hf := h.fitsE
  rcases h with rfl | ⟨h1, h2, _⟩
  · rfl
  · have hn : fits q = false := by unfold Go.Proofs.Ythjapjbiclkhcaa.fits; exact decide_eq_false (by omega)
    unfold Go.Proofs.Ythjapjbiclkhcaa.fitZ; rw [← hf, hn]; rfl
theorem one_pow_abs {z : Int} (h : z.natAbs = 1) (n : Nat) : mk (sgn z && decide (n % 2 = 1)) 1 = z ^ n := by
  induction n with
  | zero => simp [mk]
  | succ n ih =>
    rw [Int.pow_succ, ← ih]
    have hz : z = 1 ∨ z = -1 := by omega
    rcases hz with rfl | rfl
    · simp [sgn, mk]
    · have e : sgn (-1) = true := rfl
      rw [e, Bool.true_and, Bool.true_and]
      by_cases hp : n % 2 = 1
      · rw [decide_eq_true hp, decide_eq_false (by omega)]; rfl
      · rw [decide_eq_false hp, decide_eq_true (by omega)]; rfl
theorem lms_one {z : Int} (h : z.natAbs = 1) : lms z = [1] := by unfold lms; rw [h, Num.limbs_pos (by decide)]; simp [Num.limbs_zero]
theorem abs_one {z : Int} (h : (lms z).length = 1) (h1 : (lms z)[0]'(by omega) = 1) : z.natAbs = 1 := by
  have e : lms z = [1] := by
    apply List.ext_getElem
    · rw [h]; rfl
    · intro j hj hj'
      obtain rfl : j = 0 := by omega
      rw [h1]; rfl
  have := nat_lms z
  rw [e] at this
  simpa [Num.nat] using this.symm

theorem pow_next {z : Int} {k : Nat} (h1 : (lms (z ^ k)).length ≤ 40) (h2 : (lms z).length ≤ 40) : (lms (z ^ (k + 1))).length ≤ 100 := by
  have e1 := Num.limbs_len.1 h1
  have e2 := Num.limbs_len.1 h2
  have : (z ^ (k + 1)).natAbs < 4294967296 ^ (40 + 40) := by
    rw [Int.pow_succ, Int.natAbs_mul, Nat.pow_add]
    exact Nat.mul_lt_mul'' e1 e2
  exact Nat.le_trans (Num.limbs_len.2 this) (by decide)
theorem pow_over {z : Int} {k n : Nat} (h0 : z ≠ 0) (h : ¬ (lms (z ^ k)).length ≤ 40) (hk : k < n) : PowLike z n (z ^ k) := by
  refine .inr ⟨Nat.not_lt.1 fun hc => h (Num.limbs_len.2 hc), ?_, fun hz => Int.pow_nonneg hz⟩
  rw [abs_pow, abs_pow]
  exact Nat.pow_le_pow_right (by omega) (Nat.le_of_lt hk)

end Go.Proofs.Ythjapjbiclkhcaa

/- The walks of both Power. -/
namespace Go.Proofs.Ythjapjbiclkhcaa
open Go.RowKit
set_option linter.unusedVariables false

/-- what Power tells -/
def pwT (n1 : Bool) (xs : List Nat) (n : Int) : Bool := okB n1 xs && decide (0 ≤ n ∧ n ≤ 1000) && fits ((mk n1 (Num.nat xs)) ^ n.toNat)
def pwZ (n1 : Bool) (xs : List Nat) (n : Int) : Int := if pwT n1 xs n then (mk n1 (Num.nat xs)) ^ n.toNat else 0
theorem len40y {x : Int} (h : x.natAbs < 4294967296 ^ 40) : (lms x).length ≤ 1048576 := Nat.le_trans (Num.limbs_len.2 h) (by decide)
theorem bits_off (x : Int) (hx : x.natAbs < 4294967296 ^ 40) (m : Nat) (hm : m ≤ 1000) : ∃ B : Int, bitsN (lms x) = B ∧ (0 ≤ B ∧ B ≤ 1280) ∧ (1280 ≤ (B - 1) * (m : Int) → fits (x ^ m) = false) ∧ (-1000 ≤ (B - 1) * (m : Int) ∧ (B - 1) * (m : Int) ≤ 1279000) ∧ (¬ 1280 ≤ (B - 1) * (m : Int) → ∀ j, j ≤ m → (lms (x ^ j)).length ≤ 250000) := by
  have h40 := Num.limbs_len.2 hx
  by_cases h0 : (lms x).length = 0
  · obtain rfl := sgn_lms_nil h0
    refine ⟨0, by unfold bitsN; rw [if_pos h0], by omega, fun h => by omega, by omega, fun _ j hj => ?_⟩
    exact pow_len (b := 0) (by decide) (by omega)
  · obtain ⟨b, hb, hlo, hhi, hbl⟩ := bits_bounds (lms x) (lms_small x) h0 (lms_last x h0)
    rw [nat_lms] at hlo hhi
    have hb40 : b + 1 ≤ 1280 := by unfold lms at hbl; omega
    have hmul : b * m ≤ 1279 * 1000 := Nat.mul_le_mul (by omega) hm
    have e : ((b : Int) + 1 - 1) * (m : Int) = ((b * m : Nat) : Int) := by rw [Int.natCast_mul]; congr 1; omega
    refine ⟨(b : Int) + 1, hb, by omega, fun h => ?_, by rw [e]; omega, fun h j hj => ?_⟩
    · rw [e] at h; exact pow_big hlo (by omega)
    · rw [e] at h
      refine pow_len (b := b + 1) (by omega) ?_
      have h1 : (b + 1) * j ≤ (b + 1) * m := Nat.mul_le_mul_left _ hj
      rw [Nat.add_mul, Nat.one_mul] at h1 ⊢
      rw [Nat.add_mul, Nat.one_mul] at h1
      omega

set_option maxHeartbeats 4000000 in
set_option maxRecDepth 20000 in
theorem PowP (v1 : Value) (n1 : Bool) (xs : List Nat) (n : Int) (w : World) (h1 : Raw w v1 n1 xs) (hi1 : -9223372036854775808 ≤ n) (hi2 : n ≤ 9223372036854775807) :
    Calls Try.prog 9 #[v1, .int .i64 n] w fun e w' => ∃ v, e = .returned (.tuple #[v, .bool (pwT n1 xs n)]) ∧ New w' w.heap.size v (pwZ n1 xs n) ∧ Below w.heap.size w w' := by
  obtain ⟨a, ca, rfl, ha⟩ := h1
  have HZ := hide (bl_alloc (bl_alloc (bl_refl w) (Obj.cells #[Value.bool n1, Value.slice a xs.length ca] 26)) (Obj.cells #[Value.bool false, Value.slice none 0 0] 26))
  have HA := hide (ha.below HZ.out)
  clear ha
  have kA0 : ((w.alloc (Obj.cells #[Value.bool n1, Value.slice a xs.length ca] 26)).alloc (Obj.cells #[Value.bool false, Value.slice none 0 0] 26)).cell? ⟨w.heap.size, 0, none⟩ = some (Value.bool n1) := by go_simp
  have kA1 : ((w.alloc (Obj.cells #[Value.bool n1, Value.slice a xs.length ca] 26)).alloc (Obj.cells #[Value.bool false, Value.slice none 0 0] 26)).cell? ⟨w.heap.size, 1, none⟩ = some (Value.slice a xs.length ca) := by go_simp
  have kR0 : ((w.alloc (Obj.cells #[Value.bool n1, Value.slice a xs.length ca] 26)).alloc (Obj.cells #[Value.bool false, Value.slice none 0 0] 26)).cell? ⟨w.heap.size + 1, 0, none⟩ = some (Value.bool false) := by go_simp
  have kR1 : ((w.alloc (Obj.cells #[Value.bool n1, Value.slice a xs.length ca] 26)).alloc (Obj.cells #[Value.bool false, Value.slice none 0 0] 26)).cell? ⟨w.heap.size + 1, 1, none⟩ = some (Value.slice none 0 0) := by go_simp
  have fR0 : ((w.alloc (Obj.cells #[Value.bool n1, Value.slice a xs.length ca] 26)).alloc (Obj.cells #[Value.bool false, Value.slice none 0 0] 26)).frozen? ⟨w.heap.size + 1, 0, none⟩ = false := by go_simp
  have fR1 : ((w.alloc (Obj.cells #[Value.bool n1, Value.slice a xs.length ca] 26)).alloc (Obj.cells #[Value.bool false, Value.slice none 0 0] 26)).frozen? ⟨w.heap.size + 1, 1, none⟩ = false := by go_simp
  have zR : w.heap.size + 1 < ((w.alloc (Obj.cells #[Value.bool n1, Value.slice a xs.length ca] 26)).alloc (Obj.cells #[Value.bool false, Value.slice none 0 0] 26)).heap.size := by simp only [World.size_alloc]; omega
  go_enter Try.func9, Try.ntmps9
  go_wp2_with fail
  generalize ((w.alloc (Obj.cells #[Value.bool n1, Value.slice a xs.length ca] 26)).alloc (Obj.cells #[Value.bool false, Value.slice none 0 0] 26)) = w1 at *
  refine (okI _ n1 xs _ ⟨a, ca, rfl, HA.out⟩).mono ?_
  rintro e w2 ⟨rfl, hb2⟩
  replace kA0 := (hb2.cell (p := ⟨w.heap.size, 0, none⟩) (by dsimp only; omega)).trans kA0
  replace kA1 := (hb2.cell (p := ⟨w.heap.size, 1, none⟩) (by dsimp only; omega)).trans kA1
  replace kR0 := (hb2.cell (p := ⟨w.heap.size + 1, 0, none⟩) (by dsimp only; omega)).trans kR0
  replace kR1 := (hb2.cell (p := ⟨w.heap.size + 1, 1, none⟩) (by dsimp only; omega)).trans kR1
  replace fR0 := (hb2.frozen (p := ⟨w.heap.size + 1, 0, none⟩) (by dsimp only; omega)).trans fR0
  replace fR1 := (hb2.frozen (p := ⟨w.heap.size + 1, 1, none⟩) (by dsimp only; omega)).trans fR1
  replace HA := hide (HA.out.below hb2)
  replace HZ := hide (bl_trans HZ.out hb2)
  have q := hb2.size
  replace zR := Nat.lt_of_lt_of_le zR q
  clear q hb2
  cases e1 : okB n1 xs with
  | false =>
    have HT : Hid (pwT n1 xs n = false) := hide (by unfold pwT; rw [e1]; rfl)
    have HV : Hid (pwZ n1 xs n = 0) := hide (by unfold pwZ; rw [HT.out]; rfl)
    clear e1
    go_wp2
    refine bodyPost_ret (v := .tuple #[.agg #[.bool false, .slice none 0 0], .bool false]) (by simp [results, Try.results9, go_sem, *]) rfl ?_
    rw [HT.out, HV.out]
    exact ⟨_, rfl, new_zero _ _, (HZ.out.setCell (p := ⟨w.heap.size + 1, 0, none⟩) (by dsimp only; omega) _).setCell (p := ⟨w.heap.size + 1, 1, none⟩) (by dsimp only; omega) _⟩
  | true =>
  have E1 := hide e1
  clear e1
  by_cases hn0 : n < 0
  · have HT : Hid (pwT n1 xs n = false) := hide (by unfold pwT; rw [E1.out, decide_eq_false (by omega)]; rfl)
    have HV : Hid (pwZ n1 xs n = 0) := hide (by unfold pwZ; rw [HT.out]; rfl)
    go_wp2
    refine bodyPost_ret (v := .tuple #[.agg #[.bool false, .slice none 0 0], .bool false]) (by simp [results, Try.results9, go_sem, *]) rfl ?_
    rw [HT.out, HV.out]
    exact ⟨_, rfl, new_zero _ _, (HZ.out.setCell (p := ⟨w.heap.size + 1, 0, none⟩) (by dsimp only; omega) _).setCell (p := ⟨w.heap.size + 1, 1, none⟩) (by dsimp only; omega) _⟩
  by_cases hn1 : 1000 < n
  · have HT : Hid (pwT n1 xs n = false) := hide (by unfold pwT; rw [E1.out, decide_eq_false (by omega)]; rfl)
    have HV : Hid (pwZ n1 xs n = 0) := hide (by unfold pwZ; rw [HT.out]; rfl)
    go_wp2
    refine bodyPost_ret (v := .tuple #[.agg #[.bool false, .slice none 0 0], .bool false]) (by simp [results, Try.results9, go_sem, *]) rfl ?_
    rw [HT.out, HV.out]
    exact ⟨_, rfl, new_zero _ _, (HZ.out.setCell (p := ⟨w.heap.size + 1, 0, none⟩) (by dsimp only; omega) _).setCell (p := ⟨w.heap.size + 1, 1, none⟩) (by dsimp only; omega) _⟩
  have e2 : decide (0 ≤ n ∧ n ≤ 1000) = true := decide_eq_true (by omega)
  have hnn := of_decide_eq_true e2
  obtain ⟨m, rfl⟩ := Int.eq_ofNat_of_zero_le hnn.1
  have hm : m ≤ 1000 := by omega
  obtain ⟨x, rfl, rfl, hx⟩ := ok_num HA.out.2.2.2.1 E1.out
  have HT : Hid (pwT (sgn x) (lms x) m = fits (x ^ m)) := hide (by unfold pwT; rw [E1.out, e2, nat_lms, mk_self]; rfl)
  have HV : Hid (pwZ (sgn x) (lms x) m = fitZ (x ^ m)) := hide (by unfold pwZ fitZ; rw [HT.out, nat_lms, mk_self]; rfl)
  have hB40 := Num.limbs_len.2 hx
  clear e2 E1 hnn
  go_wp2_with fail
  refine (bitsI _ (sgn x) (lms x) _ ⟨a, ca, rfl, HA.out⟩ (len40y hx)).mono ?_
  rintro e w3 ⟨rfl, hb3⟩
  replace kA0 := (hb3.cell (p := ⟨w.heap.size, 0, none⟩) (by dsimp only; omega)).trans kA0
  replace kA1 := (hb3.cell (p := ⟨w.heap.size, 1, none⟩) (by dsimp only; omega)).trans kA1
  replace kR0 := (hb3.cell (p := ⟨w.heap.size + 1, 0, none⟩) (by dsimp only; omega)).trans kR0
  replace kR1 := (hb3.cell (p := ⟨w.heap.size + 1, 1, none⟩) (by dsimp only; omega)).trans kR1
  replace fR0 := (hb3.frozen (p := ⟨w.heap.size + 1, 0, none⟩) (by dsimp only; omega)).trans fR0
  replace fR1 := (hb3.frozen (p := ⟨w.heap.size + 1, 1, none⟩) (by dsimp only; omega)).trans fR1
  replace HA := hide (HA.out.below hb3)
  replace HZ := hide (bl_trans HZ.out hb3)
  have q := hb3.size
  replace zR := Nat.lt_of_lt_of_le zR q
  clear q hb3
  obtain ⟨B, hBe, hBnd⟩ := bits_off x hx m hm
  rw [hBe]
  clear hBe
  by_cases hbig : 1280 ≤ (B - 1) * (m : Int)
  · have HF : Hid (fits (x ^ m) = false) := hide (hBnd.2.1 hbig)
    have HV0 : Hid (pwZ (sgn x) (lms x) m = 0) := hide (by rw [HV.out]; unfold fitZ; rw [HF.out]; rfl)
    have HT0 : Hid (pwT (sgn x) (lms x) m = false) := hide (HT.out.trans HF.out)
    have hb0 := hBnd.1
    have hprod := hBnd.2.2.1
    clear hBnd HV HT
    obtain ⟨pr, hpr⟩ : ∃ pr, (B - 1) * (m : Int) = pr := ⟨_, rfl⟩
    rw [hpr] at hbig hprod
    go_wp2
    refine bodyPost_ret (v := .tuple #[.agg #[.bool false, .slice none 0 0], .bool false]) (by simp [results, Try.results9, go_sem, *]) rfl ?_
    rw [HT0.out, HV0.out]
    exact ⟨_, rfl, new_zero _ _, (HZ.out.setCell (p := ⟨w.heap.size + 1, 0, none⟩) (by dsimp only; omega) _).setCell (p := ⟨w.heap.size + 1, 1, none⟩) (by dsimp only; omega) _⟩
  have HL := hide (hBnd.2.2.2 hbig)
  have hb0 := hBnd.1
  have hprod := hBnd.2.2.1
  clear hBnd
  obtain ⟨pr, hpr⟩ : ∃ pr, (B - 1) * (m : Int) = pr := ⟨_, rfl⟩
  rw [hpr] at hbig hprod
  go_wp2_with fail
  have zR0 := zR
  refine (powI _ x m _ ⟨a, ca, rfl, HA.out⟩ (by omega) HL.out).mono ?_
  rintro e w4 ⟨v4, rfl, hn4, hb4⟩
  have q4 := hn4
  replace kA0 := (hb4.cell (p := ⟨w.heap.size, 0, none⟩) (by dsimp only; omega)).trans kA0
  replace kA1 := (hb4.cell (p := ⟨w.heap.size, 1, none⟩) (by dsimp only; omega)).trans kA1
  replace kR0 := (hb4.cell (p := ⟨w.heap.size + 1, 0, none⟩) (by dsimp only; omega)).trans kR0
  replace kR1 := (hb4.cell (p := ⟨w.heap.size + 1, 1, none⟩) (by dsimp only; omega)).trans kR1
  replace fR0 := (hb4.frozen (p := ⟨w.heap.size + 1, 0, none⟩) (by dsimp only; omega)).trans fR0
  replace fR1 := (hb4.frozen (p := ⟨w.heap.size + 1, 1, none⟩) (by dsimp only; omega)).trans fR1
  replace HA := hide (HA.out.below hb4)
  replace HZ := hide (bl_trans HZ.out hb4)
  have q := hb4.size
  replace zR := Nat.lt_of_lt_of_le zR q
  go_wp2_with fail
  refine (fitI v4 _ _ _ q4 hb4.size).mono ?_
  rintro e w5 ⟨v5, rfl, hn5, hb5⟩
  obtain ⟨k0, k1, f0, f1⟩ := box_keep (N := w.heap.size + 1) hb5 zR kR0 kR1 fR0 fR1
  rw [← HV.out] at hn5
  rw [← HT.out]
  have HF := hide (fun p r => fin_box (N := w.heap.size + 1) (x := p) (y := r) hn5 zR0 (by omega) (bl_trans HZ.out hb5))
  obtain ⟨a5, c5, rfl, ho5⟩ := hn5
  clear hb4 hb5 ho5 q4 hn4 kA0 kA1 kR0 kR1 fR0 fR1 HA HZ HT HV hx HL
  go_wp2
  refine bodyPost_ret (v := .tuple #[.agg #[.bool (sgn (pwZ (sgn x) (lms x) m)), .slice a5 (lms (pwZ (sgn x) (lms x) m)).length c5], .bool (pwT (sgn x) (lms x) m)]) (by simp [results, Try.results9, go_sem, *]) rfl ?_
  exact ⟨_, rfl, HF.out _ _⟩

end Go.Proofs.Ythjapjbiclkhcaa
