/- My texts From, Pow, in this order. -/
import Derived.Test.YthjapjbiclkhcaaPk02
import Derived.Test.YthjapjbiclkhcaaPk06
import Derived.Deep.DeepCutAuto
/- The walks of the two FromInt: the number of an int, in new memory. -/
namespace Go.Proofs.Ythjapjbiclkhcaa
open Go.RowKit
set_option linter.unusedVariables false

theorem and32 (n : Int) (h0 : 0 ≤ n) (h1 : n < 18446744073709551616) : bits .and .u64 n 4294967295 = n % 4294967296 := by
  have h255 : (BitVec.ofInt 64 4294967295).toNat = 2 ^ 32 - 1 := by decide
  have key : (BitVec.ofInt 64 n &&& BitVec.ofInt 64 4294967295).toNat = (n % ((2 ^ 64 : Nat) : Int)).toNat % 2 ^ 32 := by
    rw [BitVec.toNat_and, BitVec.toNat_ofInt, h255, Nat.and_two_pow_sub_one_eq_mod]
  show IntKind.u64.wrap ((BitVec.ofInt 64 n &&& BitVec.ofInt 64 4294967295).toNat : Nat) = n % 4294967296
  rw [key, IntKind.wrap_u64]
  omega
theorem own_two (w : World) (p q : Nat) (hp : p < 4294967296) (hq : q < 4294967296) : Own (w.alloc (Obj.cells #[Value.int .u32 p, Value.int .u32 q] 56)) w.heap.size (some ⟨w.heap.size, 0, none⟩) 2 2 [p, q] := by
  refine ⟨?_, fun x hx => ?_⟩
  · have := World.ownsRow_lit (base := w.heap.size) (e := 56) (size := 1) w #[Value.int .u32 p, Value.int .u32 q] 2 (Nat.le_refl _) (by unfold maxLen; omega) rfl
    simpa [lim] using this
  · simp at hx; omega

set_option maxHeartbeats 1000000 in
set_option maxRecDepth 20000 in
theorem fromI (n : Int) (w : World) (h1 : -9223372036854775808 ≤ n) (h2 : n ≤ 9223372036854775807) :
    Calls Try.prog 58 #[.int .i64 n] w fun e w' => ∃ v, e = .returned v ∧ New w' w.heap.size v n ∧ Below w.heap.size w w' := by
  by_cases hn : n < 0
  · have e1 : IntKind.u64.wrap (-IntKind.u64.wrap n) % 4294967296 = ((n.natAbs % 4294967296 : Nat) : Int) := by rw [IntKind.wrap_u64, IntKind.wrap_u64]; omega
    have e2 : IntKind.u64.wrap (-IntKind.u64.wrap n) / 4294967296 % 4294967296 = ((n.natAbs / 4294967296 : Nat) : Int) := by rw [IntKind.wrap_u64, IntKind.wrap_u64]; omega
    have e3 : bits BinOp.and IntKind.u64 (-(n + 1) + 1) 4294967295 % 4294967296 = ((n.natAbs % 4294967296 : Nat) : Int) := by rw [and32 _ (by omega) (by omega)]; omega
    have e4 : (-(n + 1) + 1) / 4294967296 = ((n.natAbs / 4294967296 : Nat) : Int) := by omega
    have E1 := hide e1
    have E2 := hide e2
    have E3 := hide e3
    have E4 := hide e4
    clear e1 e2 e3 e4
    go_enter Try.func58, Try.ntmps58
    go_wp2_with fail
    rw [E1.out, E2.out]
    have HO := hide (own_two (w.alloc (Obj.cells #[Value.bool false, Value.slice none 0 0] 26)) (n.natAbs % 4294967296) (n.natAbs / 4294967296) (by omega) (by omega))
    rw [World.size_alloc] at HO
    have hval : mk true (Num.nat [n.natAbs % 4294967296, n.natAbs / 4294967296]) = n := by unfold mk Num.nat Num.nat Num.nat; simp; omega
    refine (bigOfI true _ _ _ [n.natAbs % 4294967296, n.natAbs / 4294967296] (w.heap.size + 1) _ HO.out (by simp)).mono ?_
    rintro e w1 ⟨v1, rfl, hn1, hb1⟩
    rw [hval] at hn1
    obtain ⟨k0, k1, f0, f1⟩ := box_keep (N := w.heap.size) (c0 := .bool false) (c1 := .slice none 0 0) hb1 (by simp only [World.size_alloc]; omega) (by go_simp) (by go_simp) (by go_simp) (by go_simp)
    have HF := hide (fun x y => fin_box (N := w.heap.size) (x := x) (y := y) hn1 (by first | omega | (simp only [World.size_alloc]; omega)) (Nat.le_refl _) (bl_trans (bl_alloc (bl_alloc (bl_refl w) _) _) hb1))
    obtain ⟨a1, c1, rfl, ho1⟩ := hn1
    clear hb1 ho1 HO
    go_wp2
    refine bodyPost_ret (v := .agg #[.bool (sgn n), .slice a1 (lms n).length c1]) (by simp [results, Try.results58, go_sem, *]) rfl ?_
    exact ⟨_, rfl, HF.out _ _⟩
  · have e1 : n % 4294967296 = ((n.natAbs % 4294967296 : Nat) : Int) := by omega
    have e2 : n / 4294967296 = ((n.natAbs / 4294967296 : Nat) : Int) := by omega
    have e3 : bits BinOp.and IntKind.u64 n 4294967295 % 4294967296 = ((n.natAbs % 4294967296 : Nat) : Int) := by rw [and32 _ (by omega) (by omega)]; omega
    have E1 := hide e1
    have E2 := hide e2
    have E3 := hide e3
    clear e1 e2 e3
    go_enter Try.func58, Try.ntmps58
    go_wp2_with fail
    rw [E1.out, E2.out]
    have HO := hide (own_two (w.alloc (Obj.cells #[Value.bool false, Value.slice none 0 0] 26)) (n.natAbs % 4294967296) (n.natAbs / 4294967296) (by omega) (by omega))
    rw [World.size_alloc] at HO
    have hval : mk false (Num.nat [n.natAbs % 4294967296, n.natAbs / 4294967296]) = n := by unfold mk Num.nat Num.nat Num.nat; simp; omega
    refine (bigOfI false _ _ _ [n.natAbs % 4294967296, n.natAbs / 4294967296] (w.heap.size + 1) _ HO.out (by simp)).mono ?_
    rintro e w1 ⟨v1, rfl, hn1, hb1⟩
    rw [hval] at hn1
    obtain ⟨k0, k1, f0, f1⟩ := box_keep (N := w.heap.size) (c0 := .bool false) (c1 := .slice none 0 0) hb1 (by simp only [World.size_alloc]; omega) (by go_simp) (by go_simp) (by go_simp) (by go_simp)
    have HF := hide (fun x y => fin_box (N := w.heap.size) (x := x) (y := y) hn1 (by first | omega | (simp only [World.size_alloc]; omega)) (Nat.le_refl _) (bl_trans (bl_alloc (bl_alloc (bl_refl w) _) _) hb1))
    obtain ⟨a1, c1, rfl, ho1⟩ := hn1
    clear hb1 ho1 HO
    go_wp2
    refine bodyPost_ret (v := .agg #[.bool (sgn n), .slice a1 (lms n).length c1]) (by simp [results, Try.results58, go_sem, *]) rfl ?_
    exact ⟨_, rfl, HF.out _ _⟩

set_option maxHeartbeats 1000000 in
set_option maxRecDepth 20000 in
theorem fromS (n : Int) (w : World) (h1 : -9223372036854775808 ≤ n) (h2 : n ≤ 9223372036854775807) :
    Calls Try.prog 11 #[.int .i64 n] w fun e w' => ∃ v, e = .returned v ∧ New w' w.heap.size v n ∧ Below w.heap.size w w' := by
  by_cases hn : n < 0
  · have e1 : IntKind.u64.wrap (-IntKind.u64.wrap n) % 4294967296 = ((n.natAbs % 4294967296 : Nat) : Int) := by rw [IntKind.wrap_u64, IntKind.wrap_u64]; omega
    have e2 : IntKind.u64.wrap (-IntKind.u64.wrap n) / 4294967296 % 4294967296 = ((n.natAbs / 4294967296 : Nat) : Int) := by rw [IntKind.wrap_u64, IntKind.wrap_u64]; omega
    have e3 : bits BinOp.and IntKind.u64 (-(n + 1) + 1) 4294967295 % 4294967296 = ((n.natAbs % 4294967296 : Nat) : Int) := by rw [and32 _ (by omega) (by omega)]; omega
    have e4 : (-(n + 1) + 1) / 4294967296 = ((n.natAbs / 4294967296 : Nat) : Int) := by omega
    have E1 := hide e1
    have E2 := hide e2
    have E3 := hide e3
    have E4 := hide e4
    clear e1 e2 e3 e4
    go_enter Try.func11, Try.ntmps11
    go_wp2_with fail
    rw [E3.out, E4.out]
    have HO := hide (own_two (w.alloc (Obj.cells #[Value.bool false, Value.slice none 0 0] 26)) (n.natAbs % 4294967296) (n.natAbs / 4294967296) (by omega) (by omega))
    rw [World.size_alloc] at HO
    have hval : mk true (Num.nat [n.natAbs % 4294967296, n.natAbs / 4294967296]) = n := by unfold mk Num.nat Num.nat Num.nat; simp; omega
    refine (makeS true _ _ _ [n.natAbs % 4294967296, n.natAbs / 4294967296] _ HO.out.seg (by omega)).mono ?_
    rintro e w1 ⟨v1, rfl, hn1, hb1⟩
    rw [hval] at hn1
    obtain ⟨k0, k1, f0, f1⟩ := box_keep (N := w.heap.size) (c0 := .bool false) (c1 := .slice none 0 0) hb1 (by simp only [World.size_alloc]; omega) (by go_simp) (by go_simp) (by go_simp) (by go_simp)
    have HF := hide (fun x y => fin_box (N := w.heap.size) (x := x) (y := y) hn1 (by first | omega | (simp only [World.size_alloc]; omega)) (Nat.le_refl _) (bl_trans (bl_alloc (bl_alloc (bl_refl w) _) _) hb1))
    obtain ⟨a1, c1, rfl, ho1⟩ := hn1
    clear hb1 ho1 HO
    go_wp2
    refine bodyPost_ret (v := .agg #[.bool (sgn n), .slice a1 (lms n).length c1]) (by simp [results, Try.results11, go_sem, *]) rfl ?_
    exact ⟨_, rfl, HF.out _ _⟩
  · have e1 : n % 4294967296 = ((n.natAbs % 4294967296 : Nat) : Int) := by omega
    have e2 : n / 4294967296 = ((n.natAbs / 4294967296 : Nat) : Int) := by omega
    have e3 : bits BinOp.and IntKind.u64 n 4294967295 % 4294967296 = ((n.natAbs % 4294967296 : Nat) : Int) := by rw [and32 _ (by omega) (by omega)]; omega
    have E1 := hide e1
    have E2 := hide e2
    have E3 := hide e3
    clear e1 e2 e3
    go_enter Try.func11, Try.ntmps11
    go_wp2_with fail
    rw [E3.out, E2.out]
    have HO := hide (own_two (w.alloc (Obj.cells #[Value.bool false, Value.slice none 0 0] 26)) (n.natAbs % 4294967296) (n.natAbs / 4294967296) (by omega) (by omega))
    rw [World.size_alloc] at HO
    have hval : mk false (Num.nat [n.natAbs % 4294967296, n.natAbs / 4294967296]) = n := by unfold mk Num.nat Num.nat Num.nat; simp; omega
    refine (makeS false _ _ _ [n.natAbs % 4294967296, n.natAbs / 4294967296] _ HO.out.seg (by omega)).mono ?_
    rintro e w1 ⟨v1, rfl, hn1, hb1⟩
    rw [hval] at hn1
    obtain ⟨k0, k1, f0, f1⟩ := box_keep (N := w.heap.size) (c0 := .bool false) (c1 := .slice none 0 0) hb1 (by simp only [World.size_alloc]; omega) (by go_simp) (by go_simp) (by go_simp) (by go_simp)
    have HF := hide (fun x y => fin_box (N := w.heap.size) (x := x) (y := y) hn1 (by first | omega | (simp only [World.size_alloc]; omega)) (Nat.le_refl _) (bl_trans (bl_alloc (bl_alloc (bl_refl w) _) _) hb1))
    obtain ⟨a1, c1, rfl, ho1⟩ := hn1
    clear hb1 ho1 HO
    go_wp2
    refine bodyPost_ret (v := .agg #[.bool (sgn n), .slice a1 (lms n).length c1]) (by simp [results, Try.results11, go_sem, *]) rfl ?_
    exact ⟨_, rfl, HF.out _ _⟩

end Go.Proofs.Ythjapjbiclkhcaa

/- The walk of bigPower: a number to a power, in new memory. -/
namespace Go.Proofs.Ythjapjbiclkhcaa
open Go.RowKit
set_option linter.unusedVariables false

/-- what stands at the head of a round: the argument's box A, the answer's box R, and the box V of the number so far -/
structure PSt (w W : World) (base V : Nat) (z q : Int) (a : Option Addr) (ca : Nat) (av : Option Addr) (cv : Nat) : Prop where
  kA0 : W.cell? ⟨w.heap.size, 0, none⟩ = some (.bool (sgn z))
  kA1 : W.cell? ⟨w.heap.size, 1, none⟩ = some (.slice a (lms z).length ca)
  kR0 : W.cell? ⟨w.heap.size + 1, 0, none⟩ = some (.bool false)
  kR1 : W.cell? ⟨w.heap.size + 1, 1, none⟩ = some (.slice none 0 0)
  fR0 : W.frozen? ⟨w.heap.size + 1, 0, none⟩ = false
  fR1 : W.frozen? ⟨w.heap.size + 1, 1, none⟩ = false
  kV0 : W.cell? ⟨V, 0, none⟩ = some (.bool (sgn q))
  kV1 : W.cell? ⟨V, 1, none⟩ = some (.slice av (lms q).length cv)
  fV0 : W.frozen? ⟨V, 0, none⟩ = false
  fV1 : W.frozen? ⟨V, 1, none⟩ = false
  zV : V < W.heap.size
  own : Own W base av (lms q).length cv (lms q)
  bel : Below w.heap.size w W
/-- a new number, made behind, is stored in the box V -/
theorem PSt.store {w W W' : World} {base V : Nat} {z q r : Int} {a : Option Addr} {ca : Nat} {av : Option Addr} {cv : Nat} {ar : Option Addr} {cr : Nat} (h : PSt w W base V z q a ca av cv) (hb : Below W.heap.size W W') (hN : Own W' W.heap.size ar (lms r).length cr (lms r)) (hV : w.heap.size + 2 ≤ V) (hbW : base ≤ W.heap.size) :
    PSt w ((W'.setCell ⟨V, 0, none⟩ (.bool (sgn r))).setCell ⟨V, 1, none⟩ (.slice ar (lms r).length cr)) base V z r a ca ar cr := by
  have hz := h.zV
  have hzw := h.bel.size
  have hbs := hb.size
  have c (p : Addr) (hp : p.block < W.heap.size) (hne : p.block ≠ V) : ((W'.setCell ⟨V, 0, none⟩ (.bool (sgn r))).setCell ⟨V, 1, none⟩ (.slice ar (lms r).length cr)).cell? p = W.cell? p :=
    (World.cell?_of_block ((Below.heap_setCell _ ⟨V, 1, none⟩ _ p.block hne).trans (Below.heap_setCell _ ⟨V, 0, none⟩ _ p.block hne))).trans (hb.cell hp)
  have f (p : Addr) (hp : p.block < W.heap.size) (hne : p.block ≠ V) : ((W'.setCell ⟨V, 0, none⟩ (.bool (sgn r))).setCell ⟨V, 1, none⟩ (.slice ar (lms r).length cr)).frozen? p = W.frozen? p :=
    (World.frozen?_of_block ((Below.heap_setCell _ ⟨V, 1, none⟩ _ p.block hne).trans (Below.heap_setCell _ ⟨V, 0, none⟩ _ p.block hne))).trans (hb.frozen hp)
  have v0 := (hb.cell (p := ⟨V, 0, none⟩) hz).trans h.kV0
  have v1 := (hb.cell (p := ⟨V, 1, none⟩) hz).trans h.kV1
  have g0 := (hb.frozen (p := ⟨V, 0, none⟩) hz).trans h.fV0
  have g1 := (hb.frozen (p := ⟨V, 1, none⟩) hz).trans h.fV1
  refine ⟨(c ⟨w.heap.size, 0, none⟩ (by dsimp only; omega) (by dsimp only; omega)).trans h.kA0, (c ⟨w.heap.size, 1, none⟩ (by dsimp only; omega) (by dsimp only; omega)).trans h.kA1, (c ⟨w.heap.size + 1, 0, none⟩ (by dsimp only; omega) (by dsimp only; omega)).trans h.kR0, (c ⟨w.heap.size + 1, 1, none⟩ (by dsimp only; omega) (by dsimp only; omega)).trans h.kR1,
    (f ⟨w.heap.size + 1, 0, none⟩ (by dsimp only; omega) (by dsimp only; omega)).trans h.fR0, (f ⟨w.heap.size + 1, 1, none⟩ (by dsimp only; omega) (by dsimp only; omega)).trans h.fR1, by go_simp, by go_simp, by go_simp, by go_simp, by simp; omega, ?_, ?_⟩
  · exact ((hN.setCell (p := ⟨V, 0, none⟩) hz _).setCell (p := ⟨V, 1, none⟩) hz _).mono hbW
  · exact ((bl_trans h.bel hb).setCell (p := ⟨V, 0, none⟩) (by dsimp only; omega) _).setCell (p := ⟨V, 1, none⟩) (by dsimp only; omega) _

theorem lt_bits (n : Nat) (h : n < 18446744073709551616) : n < 2 ^ Lib.bitLen n := by
  induction n using Nat.strongRecOn with
  | _ n ih =>
    by_cases h0 : n = 0
    · subst h0; decide
    · rw [Lib.bitLen_half n h0 h, Nat.add_comm, Nat.pow_succ]
      have := ih (n / 2) (by omega) (by omega)
      omega
theorem and1 (n : Int) (h0 : 0 ≤ n) (h1 : n ≤ 100000) : bits .and .i64 n 1 = n % 2 := by
  have h255 : (BitVec.ofInt 64 1).toNat = 2 ^ 1 - 1 := by decide
  have key : (BitVec.ofInt 64 n &&& BitVec.ofInt 64 1).toNat = (n % ((2 ^ 64 : Nat) : Int)).toNat % 2 ^ 1 := by
    rw [BitVec.toNat_and, BitVec.toNat_ofInt, h255, Nat.and_two_pow_sub_one_eq_mod]
  show IntKind.i64.wrap ((BitVec.ofInt 64 n &&& BitVec.ofInt 64 1).toNat : Nat) = n % 2
  rw [key, IntKind.wrap_i64]
  omega
/-- a power by the bits ahead of place j, and one bit more -/
theorem pow_bit0 (z : Int) (n j : Nat) (h : n / 2 ^ j % 2 = 0) : z ^ (n / 2 ^ (j + 1)) * z ^ (n / 2 ^ (j + 1)) = z ^ (n / 2 ^ j) := by
  rw [← Int.pow_add]; congr 1
  rw [Nat.pow_succ, ← Nat.div_div_eq_div_mul]; omega
theorem pow_bit1 (z : Int) (n j : Nat) (h : n / 2 ^ j % 2 = 1) : z ^ (n / 2 ^ (j + 1)) * z ^ (n / 2 ^ (j + 1)) * z = z ^ (n / 2 ^ j) := by
  rw [← Int.pow_add, ← Int.pow_succ]; congr 1
  rw [Nat.pow_succ, ← Nat.div_div_eq_div_mul]; omega

set_option maxHeartbeats 4000000 in
set_option maxRecDepth 20000 in
theorem powI (v1 : Value) (z : Int) (n : Nat) (w : World) (h1 : Is w v1 z) (hn : n ≤ 100000) (hl : ∀ j, j ≤ n → (lms (z ^ j)).length ≤ 250000) :
    Calls Try.prog 33 #[v1, .int .i64 n] w fun e w' => ∃ v, e = .returned v ∧ New w' w.heap.size v (z ^ n) ∧ Below w.heap.size w w' := by
  obtain ⟨a, ca, rfl, ha⟩ := h1
  have HA := hide ha
  clear ha
  go_enter Try.func33, Try.ntmps33
  go_wp2_with fail
  have HZ := hide (bl_alloc (bl_alloc (bl_refl w) (Obj.cells #[Value.bool (sgn z), Value.slice a (lms z).length ca] 26)) (Obj.cells #[Value.bool false, Value.slice none 0 0] 26))
  have kA0 : ((w.alloc (Obj.cells #[Value.bool (sgn z), Value.slice a (lms z).length ca] 26)).alloc (Obj.cells #[Value.bool false, Value.slice none 0 0] 26)).cell? ⟨w.heap.size, 0, none⟩ = some (.bool (sgn z)) := by go_simp
  have kA1 : ((w.alloc (Obj.cells #[Value.bool (sgn z), Value.slice a (lms z).length ca] 26)).alloc (Obj.cells #[Value.bool false, Value.slice none 0 0] 26)).cell? ⟨w.heap.size, 1, none⟩ = some (.slice a (lms z).length ca) := by go_simp
  have kR0 : ((w.alloc (Obj.cells #[Value.bool (sgn z), Value.slice a (lms z).length ca] 26)).alloc (Obj.cells #[Value.bool false, Value.slice none 0 0] 26)).cell? ⟨w.heap.size + 1, 0, none⟩ = some (.bool false) := by go_simp
  have kR1 : ((w.alloc (Obj.cells #[Value.bool (sgn z), Value.slice a (lms z).length ca] 26)).alloc (Obj.cells #[Value.bool false, Value.slice none 0 0] 26)).cell? ⟨w.heap.size + 1, 1, none⟩ = some (.slice none 0 0) := by go_simp
  have fR0 : ((w.alloc (Obj.cells #[Value.bool (sgn z), Value.slice a (lms z).length ca] 26)).alloc (Obj.cells #[Value.bool false, Value.slice none 0 0] 26)).frozen? ⟨w.heap.size + 1, 0, none⟩ = false := by go_simp
  have fR1 : ((w.alloc (Obj.cells #[Value.bool (sgn z), Value.slice a (lms z).length ca] 26)).alloc (Obj.cells #[Value.bool false, Value.slice none 0 0] 26)).frozen? ⟨w.heap.size + 1, 1, none⟩ = false := by go_simp
  have zz : w.heap.size + 2 = ((w.alloc (Obj.cells #[Value.bool (sgn z), Value.slice a (lms z).length ca] 26)).alloc (Obj.cells #[Value.bool false, Value.slice none 0 0] 26)).heap.size := by simp only [World.size_alloc]
  generalize (w.alloc (Obj.cells #[Value.bool (sgn z), Value.slice a (lms z).length ca] 26)).alloc (Obj.cells #[Value.bool false, Value.slice none 0 0] 26) = w1 at *
  refine (fromI 1 _ (by decide) (by decide)).mono ?_
  rintro e w2 ⟨v2, rfl, ⟨a2, c2, rfl, ho2⟩, hb2⟩
  have q2 := hb2.size
  have hP : PSt w (w2.alloc (Obj.cells #[Value.bool (sgn 1), Value.slice a2 (lms 1).length c2] 26)) w1.heap.size w2.heap.size z 1 a ca a2 c2 := by
    have hbl := bl_trans hb2 (bl_alloc (bl_refl w2) (Obj.cells #[Value.bool (sgn 1), Value.slice a2 (lms 1).length c2] 26))
    exact ⟨(hbl.cell (p := ⟨w.heap.size, 0, none⟩) (by dsimp only; omega)).trans kA0, (hbl.cell (p := ⟨w.heap.size, 1, none⟩) (by dsimp only; omega)).trans kA1, (hbl.cell (p := ⟨w.heap.size + 1, 0, none⟩) (by dsimp only; omega)).trans kR0, (hbl.cell (p := ⟨w.heap.size + 1, 1, none⟩) (by dsimp only; omega)).trans kR1, (hbl.frozen (p := ⟨w.heap.size + 1, 0, none⟩) (by dsimp only; omega)).trans fR0, (hbl.frozen (p := ⟨w.heap.size + 1, 1, none⟩) (by dsimp only; omega)).trans fR1, by go_simp, by go_simp, by go_simp, by go_simp, by simp only [World.size_alloc]; omega, ho2.below (bl_alloc (bl_refl w2) _), bl_trans HZ.out hbl⟩
  have HP := hide hP
  have hVw : w.heap.size + 2 ≤ w2.heap.size := by omega
  have hBW : w1.heap.size ≤ w2.heap.size := q2
  clear hP kA0 kA1 kR0 kR1 fR0 fR1 ho2 hb2
  have hL64 := Lib.bitLen_le n 64 (by omega) (by omega)
  have HLN := hide (Nat.lt_of_lt_of_le (show n < 2 ^ 64 by omega) (Nat.le_refl _))
  go_wp2_with (go_at_call 64; refine (Try.bits_Len n _ (by omega) (by omega)).mono ?_; rintro e w5 ⟨rfl, hw5⟩; subst w5)
  go_loopw [6] (fun i wr => ∃ (j : Nat) (av : Option Addr) (cv : Nat), j ≤ Lib.bitLen n ∧ i = .int .i64 ((j : Int) - 1) ∧ Hid (PSt w wr w1.heap.size w2.heap.size z (z ^ (n / 2 ^ j)) a ca av cv)) (fun i _ => (intOf i + 1).toNat)
  case atStart =>
    refine ⟨Lib.bitLen n, a2, c2, Nat.le_refl _, by go_num, ?_⟩
    have e : n / 2 ^ Lib.bitLen n = 0 := Nat.div_eq_of_lt (lt_bits n (by omega))
    rw [e, Int.pow_zero]
    exact HP
  case round =>
    obtain ⟨j, av, cv, hj, rfl, hP⟩ := hrel
    by_cases h0 : j = 0
    · subst h0
      rw [show n / 2 ^ 0 = n by simp] at hP
      obtain ⟨kA0, kA1, kR0, kR1, fR0, fR1, kV0, kV1, fV0, fV1, zV, own, bel⟩ := hP.out
      have HO := hide own
      have HB := hide bel
      clear own bel
      go_wp2
      refine bodyPost_ret (v := .agg #[.bool (sgn (z ^ n)), .slice av (lms (z ^ n)).length cv]) (by simp [results, Try.results33, go_sem, *]) rfl ?_
      refine ⟨_, rfl, ⟨av, cv, rfl, ?_⟩, ?_⟩
      · exact ((HO.out.setCell (p := ⟨w.heap.size + 1, 0, none⟩) (by dsimp only; omega) _).setCell (p := ⟨w.heap.size + 1, 1, none⟩) (by dsimp only; omega) _).mono (by omega)
      · exact (HB.out.setCell (p := ⟨w.heap.size + 1, 0, none⟩) (by dsimp only; omega) _).setCell (p := ⟨w.heap.size + 1, 1, none⟩) (by dsimp only; omega) _
    · obtain ⟨i, rfl⟩ : ∃ i, j = i + 1 := ⟨j - 1, by omega⟩
      have ei : (((i + 1 : Nat) : Int) - 1) = (i : Int) := by omega
      rw [ei]
      have hlq : (lms (z ^ (n / 2 ^ (i + 1)))).length ≤ 250000 := hl _ (Nat.div_le_self _ _)
      obtain ⟨kA0, kA1, kR0, kR1, fR0, fR1, kV0, kV1, fV0, fV1, zV, own, bel⟩ := hP.out
      have HO := hide own
      have HB := hide bel
      clear own bel
      go_wp2_with fail
      refine (prodI (.agg #[.bool (sgn (z ^ (n / 2 ^ (i + 1)))), .slice av (lms (z ^ (n / 2 ^ (i + 1)))).length cv]) (.agg #[.bool (sgn (z ^ (n / 2 ^ (i + 1)))), .slice av (lms (z ^ (n / 2 ^ (i + 1)))).length cv]) (sgn (z ^ (n / 2 ^ (i + 1)))) (sgn (z ^ (n / 2 ^ (i + 1)))) _ _ _ ⟨av, cv, rfl, HO.out.seg⟩ ⟨av, cv, rfl, HO.out.seg⟩ (Nat.le_trans hlq (by decide)) (Nat.le_trans hlq (by decide))).mono ?_
      rintro e w6 ⟨v6, rfl, hn6, hb6⟩
      rw [mk_self] at hn6
      obtain ⟨a6, c6, rfl, ho6⟩ := hn6
      have hP6 := hP.out.store hb6 ho6 hVw (by have := zV; omega)
      have v0 := (hb6.cell (p := ⟨w2.heap.size, 0, none⟩) zV).trans kV0
      have v1 := (hb6.cell (p := ⟨w2.heap.size, 1, none⟩) zV).trans kV1
      have g0 := (hb6.frozen (p := ⟨w2.heap.size, 0, none⟩) zV).trans fV0
      have g1 := (hb6.frozen (p := ⟨w2.heap.size, 1, none⟩) zV).trans fV1
      have HP6 := hide hP6
      clear hP6 hb6 ho6 kA0 kA1 kR0 kR1 fR0 fR1 kV0 kV1 fV0 fV1 HO HB hP
      go_upto_region 6 with fail
      generalize (w6.setCell ⟨w2.heap.size, 0, none⟩ (Value.bool (sgn (z ^ (n / 2 ^ (i + 1)) * z ^ (n / 2 ^ (i + 1)))))).setCell ⟨w2.heap.size, 1, none⟩ (Value.slice a6 (lms (z ^ (n / 2 ^ (i + 1)) * z ^ (n / 2 ^ (i + 1)))).length c6) = w7 at *
      clear v0 v1 g0 g1
      have hnn : (n : Int) / 2 ^ i = ((n / 2 ^ i : Nat) : Int) := by rw [Int.natCast_ediv, Int.natCast_pow]; rfl
      have hbit : bits BinOp.and IntKind.i64 ((n : Int) / 2 ^ i) 1 = ((n / 2 ^ i % 2 : Nat) : Int) := by
        have hle := Nat.div_le_self n (2 ^ i)
        rw [hnn]
        generalize n / 2 ^ i = m at *
        rw [and1 _ (Int.natCast_nonneg _) (by omega)]; omega
      clear hnn
      rcases Nat.mod_two_eq_zero_or_one (n / 2 ^ i) with hz2 | hz2
      · rw [hz2] at hbit
        rw [pow_bit0 z n i hz2] at HP6
        go_wp2
        exact ⟨⟨i, a6, c6, by omega, by go_num, HP6⟩, by simp [intOf]⟩
      · rw [hz2] at hbit
        obtain ⟨kA0, kA1, kR0, kR1, fR0, fR1, kV0, kV1, fV0, fV1, zV, own, bel⟩ := HP6.out
        have HO := hide own
        have HB := hide bel
        clear own bel
        have hlz : (lms z).length ≤ 250000 := by
          have hn1 : 1 ≤ n := by
            refine Classical.byContradiction fun hc => ?_
            have : n = 0 := by omega
            subst this; simp at hz2
          have := hl 1 hn1
          rwa [Int.pow_one] at this
        have hlqq : (lms (z ^ (n / 2 ^ (i + 1)) * z ^ (n / 2 ^ (i + 1)))).length ≤ 250000 := by
          rw [← Int.pow_add]
          refine hl _ ?_
          have h2 : n / 2 ^ (i + 1) = n / 2 ^ i / 2 := by rw [Nat.pow_succ, ← Nat.div_div_eq_div_mul]
          have := Nat.div_le_self n (2 ^ i)
          omega
        go_wp2_with fail
        refine (prodI (.agg #[.bool (sgn (z ^ (n / 2 ^ (i + 1)) * z ^ (n / 2 ^ (i + 1)))), .slice a6 (lms (z ^ (n / 2 ^ (i + 1)) * z ^ (n / 2 ^ (i + 1)))).length c6]) (.agg #[.bool (sgn z), .slice a (lms z).length ca]) (sgn (z ^ (n / 2 ^ (i + 1)) * z ^ (n / 2 ^ (i + 1)))) (sgn z) _ _ _ ⟨a6, c6, rfl, HO.out.seg⟩ ⟨a, ca, rfl, HA.out.below HB.out⟩ (Nat.le_trans hlqq (by decide)) (Nat.le_trans hlz (by decide))).mono ?_
        rintro e w8 ⟨v8, rfl, hn8, hb8⟩
        rw [mk_self, mk_self, pow_bit1 z n i hz2] at hn8
        obtain ⟨a8, c8, rfl, ho8⟩ := hn8
        have HP8 := hide (HP6.out.store hb8 ho8 hVw (by have := zV; omega))
        have v0 := (hb8.cell (p := ⟨w2.heap.size, 0, none⟩) zV).trans kV0
        have v1 := (hb8.cell (p := ⟨w2.heap.size, 1, none⟩) zV).trans kV1
        have g0 := (hb8.frozen (p := ⟨w2.heap.size, 0, none⟩) zV).trans fV0
        have g1 := (hb8.frozen (p := ⟨w2.heap.size, 1, none⟩) zV).trans fV1
        clear hb8 ho8 kA0 kA1 kR0 kR1 fR0 fR1 kV0 kV1 fV0 fV1 HO HB HP6
        go_wp2
        exact ⟨⟨i, a8, c8, by omega, by go_num, HP8⟩, by simp [intOf]⟩
end Go.Proofs.Ythjapjbiclkhcaa
