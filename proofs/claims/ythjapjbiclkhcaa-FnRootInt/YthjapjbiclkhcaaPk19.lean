/- My texts RootF, RtL, in this order. -/
import Derived.Test.YthjapjbiclkhcaaRootI
import Derived.Test.YthjapjbiclkhcaaRootS
import Derived.Test.YthjapjbiclkhcaaPk01
import Derived.Test.YthjapjbiclkhcaaPk11
import Derived.Test.YthjapjbiclkhcaaPk05
import Derived.Test.YthjapjbiclkhcaaPk04
/- The walks of both RootInt: the answer by its arguments. -/
namespace Go.Proofs.Ythjapjbiclkhcaa
open Go.RowKit
set_option linter.unusedVariables false

/-- the root, by its marks -/
noncomputable def rootOf (k x : Nat) : Nat := Classical.epsilon (fun r => Root k x r)
theorem rootOf_is {k x r : Nat} (h : Root k x r) : rootOf k x = r := root_one (Classical.epsilon_spec (p := fun r => Root k x r) ⟨r, h⟩) h
def rtB (n : Bool) (xs : List Nat) (k : Int) : Bool := okB n xs && (!n && decide (1 ≤ k ∧ k ≤ 64))
noncomputable def rtZ (n : Bool) (xs : List Nat) (k : Int) : Int := if rtB n xs k = true then (rootOf k.toNat (Num.nat xs) : Int) else 0
noncomputable def rtE (n : Bool) (xs : List Nat) (k : Int) : Bool := rtB n xs k && decide (rootOf k.toNat (Num.nat xs) ^ k.toNat = Num.nat xs)
theorem rt_no {n : Bool} {xs : List Nat} {k : Int} (h : rtB n xs k = false) : rtZ n xs k = 0 ∧ rtE n xs k = false := by
  unfold rtZ rtE; rw [h]; exact ⟨rfl, rfl⟩
theorem root_le {k x r : Nat} (h : Root (k + 1) x r) : r ≤ x := by
  refine Nat.le_trans ?_ h.1
  rw [Nat.pow_succ]
  rcases Nat.eq_zero_or_pos r with e | e
  · rw [e]; exact Nat.zero_le _
  · exact Nat.le_mul_of_pos_left r (Nat.pow_pos e)
theorem rt_yes {x K r : Nat} (hx : x < 4294967296 ^ 40) (hK : K ≤ 63) (h : Root (K + 1) x r) : rtZ false (lms (x : Int)) ((K : Int) + 1) = (r : Int) ∧ rtE false (lms (x : Int)) ((K : Int) + 1) = decide (r ^ (K + 1) = x) := by
  have hok : okB false (lms (x : Int)) = true := by
    have : sgn (x : Int) = false := decide_eq_false (by omega)
    rw [← this, ok_of_num]; exact decide_eq_true (by rw [Int.natAbs_natCast]; exact hx)
  have ht : rtB false (lms (x : Int)) ((K : Int) + 1) = true := by
    unfold rtB; rw [hok, decide_eq_true (by omega)]; rfl
  have e1 : ((K : Int) + 1).toNat = K + 1 := by omega
  have e2 : Num.nat (lms (x : Int)) = x := by rw [nat_lms, Int.natAbs_natCast]
  unfold rtZ rtE
  rw [if_pos ht, ht, e1, e2, rootOf_is h]
  exact ⟨rfl, rfl⟩
theorem rt_args {n : Bool} {xs : List Nat} {k : Int} (hs : Num.Small xs) (h : rtB n xs k = true) : ∃ (x K : Nat), n = false ∧ xs = lms (x : Int) ∧ k = (K : Int) + 1 ∧ K ≤ 63 ∧ x < 4294967296 ^ 40 := by
  unfold rtB at h
  rw [Bool.and_eq_true, Bool.and_eq_true] at h
  obtain ⟨h1, h2, h3⟩ := h
  have h3 := of_decide_eq_true h3
  obtain ⟨z, hz, hx, hb⟩ := ok_num hs h1
  have hn : n = false := by cases n with
    | false => rfl
    | true => exact absurd h2 (by decide)
  have hz0 : ¬ z < 0 := by rw [hn] at hz; exact of_decide_eq_false hz.symm
  refine ⟨z.natAbs, (k - 1).toNat, hn, ?_, by omega, by omega, hb⟩
  rw [hx]; unfold lms; rw [Int.natAbs_natCast]
theorem rt_len (n : Bool) (xs : List Nat) (k : Int) (hs : Num.Small xs) : (lms (rtZ n xs k)).length ≤ 40 := by
  cases h : rtB n xs k with
  | false => rw [(rt_no h).1, zero_lms]; decide
  | true =>
    obtain ⟨x, K, rfl, rfl, rfl, hK, hx⟩ := rt_args hs h
    obtain ⟨r, hr⟩ := root_ex (K + 1) x (by omega)
    rw [(rt_yes hx hK hr).1]
    refine Num.limbs_len.2 ?_
    rw [Int.natAbs_natCast]
    exact Nat.lt_of_le_of_lt (root_le hr) hx
theorem top_of {T x : Nat} (hT : IsTop T) (hx : x < 4294967296 ^ 40) : x ≤ T := by
  obtain ⟨E, hE, rfl⟩ := hT
  obtain ⟨m, hm⟩ : ∃ m : Nat, m = 40 := ⟨_, rfl⟩
  rw [← hm, show (4294967296 : Nat) = 2 ^ 32 from rfl, ← Nat.pow_mul, show 32 * m = E by omega] at hx
  exact Nat.le_of_lt hx
theorem powI1 (v1 : Value) (x r K : Nat) (w : World) (hx : x < 4294967296 ^ 40) (hr : r ≤ x) (hK : K ≤ 63) (h1 : Is w v1 (r : Int)) :
    Calls Try.prog 33 #[v1, .int .i64 ((K : Int) + 1)] w fun e w' => ∃ v q, e = .returned v ∧ New w' w.heap.size v q ∧ PowLike (r : Int) (K + 1) q ∧ Below w.heap.size w w' := by
  obtain ⟨T, hT⟩ := top_ex
  have h := powT T v1 r (K + 1) w hT h1 (Nat.le_trans hr (top_of hT hx)) (by omega)
  refine Calls.mono h ?_
  rintro e w' ⟨v, rfl, hn, hb⟩
  exact ⟨v, _, rfl, hn, .inl (Int.natCast_pow r (K + 1)), hb⟩
theorem cmp_root {x K r : Nat} {q : Int} (hx : x < 4294967296 ^ 40) (h : PowLike (r : Int) (K + 1) q) : (cmpZ q (x : Int) == 0) = decide (r ^ (K + 1) = x) := by
  have key : (q = (x : Int)) ↔ r ^ (K + 1) = x := by
    rcases h with h | ⟨h1, h2, h3⟩
    · rw [h, ← Int.natCast_pow]; omega
    · have h0 := h3 (by omega)
      rw [← Int.natCast_pow, Int.natAbs_natCast] at h2
      omega
  by_cases e : q = (x : Int)
  · rw [decide_eq_true (key.1 e), cmp_eq e]; rfl
  · rw [decide_eq_false (fun h => e (key.2 h)), beq_eq_false_iff_ne]
    unfold cmpZ; split
    · decide
    · split
      · decide
      · omega

set_option maxHeartbeats 8000000 in
set_option maxRecDepth 20000 in
theorem rootPno (n : Bool) (xs : List Nat) (k : Int) (a : Option Addr) (c : Nat) (w : World) (s1 : Seg w a xs.length c xs) (hk1 : -9223372036854775808 ≤ k) (hk2 : k ≤ 9223372036854775807) (hh : rtB n xs k = false) :
    Calls Try.prog 7 #[Value.agg #[Value.bool n, Value.slice a xs.length c], .int .i64 k] w fun e w' => ∃ a1 c1, e = .returned (.tuple #[.agg #[.bool (sgn (rtZ n xs k)), .slice a1 (lms (rtZ n xs k)).length c1], .bool (rtE n xs k)]) ∧ Own w' w.heap.size a1 (lms (rtZ n xs k)).length c1 (lms (rtZ n xs k)) ∧ Below w.heap.size w w' := by
  obtain ⟨e1, e2⟩ := rt_no hh
  rw [e1, e2, zero_lms]
  clear e1 e2
  have ka0 : ((w.alloc (Obj.cells #[Value.bool n, Value.slice a xs.length c] 26)).alloc (Obj.cells #[Value.bool false, Value.slice none 0 0] 26)).cell? ⟨w.heap.size, 0, none⟩ = some (Value.bool n) := by go_simp
  have ka1 : ((w.alloc (Obj.cells #[Value.bool n, Value.slice a xs.length c] 26)).alloc (Obj.cells #[Value.bool false, Value.slice none 0 0] 26)).cell? ⟨w.heap.size, 1, none⟩ = some (Value.slice a xs.length c) := by go_simp
  have kr0 : ((w.alloc (Obj.cells #[Value.bool n, Value.slice a xs.length c] 26)).alloc (Obj.cells #[Value.bool false, Value.slice none 0 0] 26)).cell? ⟨w.heap.size + 1, 0, none⟩ = some (Value.bool false) := by go_simp
  have fr0 : ((w.alloc (Obj.cells #[Value.bool n, Value.slice a xs.length c] 26)).alloc (Obj.cells #[Value.bool false, Value.slice none 0 0] 26)).frozen? ⟨w.heap.size + 1, 0, none⟩ = false := by go_simp
  have kr1 : ((w.alloc (Obj.cells #[Value.bool n, Value.slice a xs.length c] 26)).alloc (Obj.cells #[Value.bool false, Value.slice none 0 0] 26)).cell? ⟨w.heap.size + 1, 1, none⟩ = some (Value.slice none 0 0) := by go_simp
  have fr1 : ((w.alloc (Obj.cells #[Value.bool n, Value.slice a xs.length c] 26)).alloc (Obj.cells #[Value.bool false, Value.slice none 0 0] 26)).frozen? ⟨w.heap.size + 1, 1, none⟩ = false := by go_simp
  have zr : w.heap.size + 1 < ((w.alloc (Obj.cells #[Value.bool n, Value.slice a xs.length c] 26)).alloc (Obj.cells #[Value.bool false, Value.slice none 0 0] 26)).heap.size := by simp only [World.size_alloc]; omega
  have HB := hide (bl_alloc (bl_alloc (bl_refl w) (Obj.cells #[Value.bool n, Value.slice a xs.length c] 26)) (Obj.cells #[Value.bool false, Value.slice none 0 0] 26))
  have S1 := hide (s1.below HB.out)
  clear s1
  go_enter Try.func7, Try.ntmps7
  go_wp2_with fail
  generalize ((w.alloc (Obj.cells #[Value.bool n, Value.slice a xs.length c] 26)).alloc (Obj.cells #[Value.bool false, Value.slice none 0 0] 26)) = w1 at *
  have z0 := zr
  refine (okI _ n xs _ ⟨a, c, rfl, S1.out⟩).mono ?_
  rintro e w2 ⟨rfl, hb⟩
  have yw2 := hb.size
  replace ka0 := (hb.cell (p := ⟨w.heap.size, 0, none⟩) (by dsimp only; omega)).trans ka0
  replace ka1 := (hb.cell (p := ⟨w.heap.size, 1, none⟩) (by dsimp only; omega)).trans ka1
  replace kr0 := (hb.cell (p := ⟨w.heap.size + 1, 0, none⟩) (by dsimp only; omega)).trans kr0
  replace fr0 := (hb.frozen (p := ⟨w.heap.size + 1, 0, none⟩) (by dsimp only; omega)).trans fr0
  replace kr1 := (hb.cell (p := ⟨w.heap.size + 1, 1, none⟩) (by dsimp only; omega)).trans kr1
  replace fr1 := (hb.frozen (p := ⟨w.heap.size + 1, 1, none⟩) (by dsimp only; omega)).trans fr1
  replace S1 := hide (S1.out.below hb)
  replace zr := Nat.lt_of_lt_of_le zr hb.size
  replace HB := hide (bl_trans HB.out hb)
  clear hb
  cases hok : okB n xs with
  | false =>
    go_wp2
    refine bodyPost_ret (v := .tuple #[.agg #[.bool false, .slice none 0 0], .bool false]) (by simp [results, Try.results7, go_sem, kr0, kr1]) rfl ?_
    have hz2 := HB.out.size
    exact ⟨none, 0, rfl, Own.nil _ _, (by first | exact HB.out | exact (HB.out.setCell (p := ⟨w.heap.size + 1, 0, none⟩) (by dsimp only; omega) _).setCell (p := ⟨w.heap.size + 1, 1, none⟩) (by dsimp only; omega) _)⟩
  | true =>
    cases hn : n with
    | true =>
      rw [hn] at ka0
      go_wp2
      refine bodyPost_ret (v := .tuple #[.agg #[.bool false, .slice none 0 0], .bool false]) (by simp [results, Try.results7, go_sem, kr0, kr1]) rfl ?_
      have hz2 := HB.out.size
      exact ⟨none, 0, rfl, Own.nil _ _, (by first | exact HB.out | exact (HB.out.setCell (p := ⟨w.heap.size + 1, 0, none⟩) (by dsimp only; omega) _).setCell (p := ⟨w.heap.size + 1, 1, none⟩) (by dsimp only; omega) _)⟩
    | false =>
      rw [hn] at ka0
      have hnk : ¬ (1 ≤ k ∧ k ≤ 64) := by
        intro h
        unfold rtB at hh
        rw [hok, hn, decide_eq_true h] at hh
        exact absurd hh (by decide)
      by_cases h1 : k < 1
      · go_wp2
        refine bodyPost_ret (v := .tuple #[.agg #[.bool false, .slice none 0 0], .bool false]) (by simp [results, Try.results7, go_sem, kr0, kr1]) rfl ?_
        have hz2 := HB.out.size
        exact ⟨none, 0, rfl, Own.nil _ _, (by first | exact HB.out | exact (HB.out.setCell (p := ⟨w.heap.size + 1, 0, none⟩) (by dsimp only; omega) _).setCell (p := ⟨w.heap.size + 1, 1, none⟩) (by dsimp only; omega) _)⟩
      · have h2 : 64 < k := by omega
        go_wp2
        refine bodyPost_ret (v := .tuple #[.agg #[.bool false, .slice none 0 0], .bool false]) (by simp [results, Try.results7, go_sem, kr0, kr1]) rfl ?_
        have hz2 := HB.out.size
        exact ⟨none, 0, rfl, Own.nil _ _, (by first | exact HB.out | exact (HB.out.setCell (p := ⟨w.heap.size + 1, 0, none⟩) (by dsimp only; omega) _).setCell (p := ⟨w.heap.size + 1, 1, none⟩) (by dsimp only; omega) _)⟩

set_option maxHeartbeats 8000000 in
set_option maxRecDepth 20000 in
theorem rootQno (n : Bool) (xs : List Nat) (k : Int) (a : Option Addr) (c : Nat) (w : World) (s1 : Seg w a xs.length c xs) (hk1 : -9223372036854775808 ≤ k) (hk2 : k ≤ 9223372036854775807) (hh : rtB n xs k = false) :
    Calls Try.prog 43 #[Value.agg #[Value.bool n, Value.slice a xs.length c], .int .i64 k] w fun e w' => ∃ a1 c1, e = .returned (.tuple #[.agg #[.bool (sgn (rtZ n xs k)), .slice a1 (lms (rtZ n xs k)).length c1], .bool (rtE n xs k)]) ∧ Own w' w.heap.size a1 (lms (rtZ n xs k)).length c1 (lms (rtZ n xs k)) ∧ Below w.heap.size w w' := by
  obtain ⟨e1, e2⟩ := rt_no hh
  rw [e1, e2, zero_lms]
  clear e1 e2
  have ka0 : ((w.alloc (Obj.cells #[Value.bool n, Value.slice a xs.length c] 26)).alloc (Obj.cells #[Value.bool false, Value.slice none 0 0] 26)).cell? ⟨w.heap.size, 0, none⟩ = some (Value.bool n) := by go_simp
  have ka1 : ((w.alloc (Obj.cells #[Value.bool n, Value.slice a xs.length c] 26)).alloc (Obj.cells #[Value.bool false, Value.slice none 0 0] 26)).cell? ⟨w.heap.size, 1, none⟩ = some (Value.slice a xs.length c) := by go_simp
  have kr0 : ((w.alloc (Obj.cells #[Value.bool n, Value.slice a xs.length c] 26)).alloc (Obj.cells #[Value.bool false, Value.slice none 0 0] 26)).cell? ⟨w.heap.size + 1, 0, none⟩ = some (Value.bool false) := by go_simp
  have fr0 : ((w.alloc (Obj.cells #[Value.bool n, Value.slice a xs.length c] 26)).alloc (Obj.cells #[Value.bool false, Value.slice none 0 0] 26)).frozen? ⟨w.heap.size + 1, 0, none⟩ = false := by go_simp
  have kr1 : ((w.alloc (Obj.cells #[Value.bool n, Value.slice a xs.length c] 26)).alloc (Obj.cells #[Value.bool false, Value.slice none 0 0] 26)).cell? ⟨w.heap.size + 1, 1, none⟩ = some (Value.slice none 0 0) := by go_simp
  have fr1 : ((w.alloc (Obj.cells #[Value.bool n, Value.slice a xs.length c] 26)).alloc (Obj.cells #[Value.bool false, Value.slice none 0 0] 26)).frozen? ⟨w.heap.size + 1, 1, none⟩ = false := by go_simp
  have zr : w.heap.size + 1 < ((w.alloc (Obj.cells #[Value.bool n, Value.slice a xs.length c] 26)).alloc (Obj.cells #[Value.bool false, Value.slice none 0 0] 26)).heap.size := by simp only [World.size_alloc]; omega
  have HB := hide (bl_alloc (bl_alloc (bl_refl w) (Obj.cells #[Value.bool n, Value.slice a xs.length c] 26)) (Obj.cells #[Value.bool false, Value.slice none 0 0] 26))
  have S1 := hide (s1.below HB.out)
  clear s1
  go_enter Try.func43, Try.ntmps43
  go_wp2_with fail
  generalize ((w.alloc (Obj.cells #[Value.bool n, Value.slice a xs.length c] 26)).alloc (Obj.cells #[Value.bool false, Value.slice none 0 0] 26)) = w1 at *
  have z0 := zr
  refine (okS _ n xs _ ⟨a, c, rfl, S1.out⟩).mono ?_
  rintro e w2 ⟨rfl, hb⟩
  have yw2 := hb.size
  replace ka0 := (hb.cell (p := ⟨w.heap.size, 0, none⟩) (by dsimp only; omega)).trans ka0
  replace ka1 := (hb.cell (p := ⟨w.heap.size, 1, none⟩) (by dsimp only; omega)).trans ka1
  replace kr0 := (hb.cell (p := ⟨w.heap.size + 1, 0, none⟩) (by dsimp only; omega)).trans kr0
  replace fr0 := (hb.frozen (p := ⟨w.heap.size + 1, 0, none⟩) (by dsimp only; omega)).trans fr0
  replace kr1 := (hb.cell (p := ⟨w.heap.size + 1, 1, none⟩) (by dsimp only; omega)).trans kr1
  replace fr1 := (hb.frozen (p := ⟨w.heap.size + 1, 1, none⟩) (by dsimp only; omega)).trans fr1
  replace S1 := hide (S1.out.below hb)
  replace zr := Nat.lt_of_lt_of_le zr hb.size
  replace HB := hide (bl_trans HB.out hb)
  clear hb
  cases hok : okB n xs with
  | false =>
    go_wp2
    refine bodyPost_ret (v := .tuple #[.agg #[.bool false, .slice none 0 0], .bool false]) (by simp [results, Try.results43, go_sem, kr0, kr1]) rfl ?_
    have hz2 := HB.out.size
    exact ⟨none, 0, rfl, Own.nil _ _, (by first | exact HB.out | exact (HB.out.setCell (p := ⟨w.heap.size + 1, 0, none⟩) (by dsimp only; omega) _).setCell (p := ⟨w.heap.size + 1, 1, none⟩) (by dsimp only; omega) _)⟩
  | true =>
    cases hn : n with
    | true =>
      rw [hn] at ka0
      go_wp2
      refine bodyPost_ret (v := .tuple #[.agg #[.bool false, .slice none 0 0], .bool false]) (by simp [results, Try.results43, go_sem, kr0, kr1]) rfl ?_
      have hz2 := HB.out.size
      exact ⟨none, 0, rfl, Own.nil _ _, (by first | exact HB.out | exact (HB.out.setCell (p := ⟨w.heap.size + 1, 0, none⟩) (by dsimp only; omega) _).setCell (p := ⟨w.heap.size + 1, 1, none⟩) (by dsimp only; omega) _)⟩
    | false =>
      rw [hn] at ka0
      have hnk : ¬ (1 ≤ k ∧ k ≤ 64) := by
        intro h
        unfold rtB at hh
        rw [hok, hn, decide_eq_true h] at hh
        exact absurd hh (by decide)
      have hnd : decide (1 ≤ k ∧ k ≤ 64) = false := decide_eq_false hnk
      go_wp2_with fail
      refine (inS k 1 64 _).mono ?_
      rintro e w9 ⟨rfl, rfl⟩
      rw [hnd]
      go_wp2
      refine bodyPost_ret (v := .tuple #[.agg #[.bool false, .slice none 0 0], .bool false]) (by simp [results, Try.results43, go_sem, kr0, kr1]) rfl ?_
      have hz2 := HB.out.size
      exact ⟨none, 0, rfl, Own.nil _ _, (by first | exact HB.out | exact (HB.out.setCell (p := ⟨w.heap.size + 1, 0, none⟩) (by dsimp only; omega) _).setCell (p := ⟨w.heap.size + 1, 1, none⟩) (by dsimp only; omega) _)⟩

set_option maxHeartbeats 8000000 in
set_option maxRecDepth 20000 in
theorem rootPyes (x K : Nat) (a : Option Addr) (c : Nat) (w : World) (s1 : Seg w a (lms (x : Int)).length c (lms (x : Int))) (hK : K ≤ 63) (hx : x < 4294967296 ^ 40) :
    Calls Try.prog 7 #[Value.agg #[Value.bool false, Value.slice a (lms (x : Int)).length c], .int .i64 ((K : Int) + 1)] w fun e w' => ∃ a1 c1 r, e = .returned (.tuple #[.agg #[.bool (sgn ((r : Nat) : Int)), .slice a1 (lms ((r : Nat) : Int)).length c1], .bool (decide (r ^ (K + 1) = x))]) ∧ Root (K + 1) x r ∧ Own w' w.heap.size a1 (lms ((r : Nat) : Int)).length c1 (lms ((r : Nat) : Int)) ∧ Below w.heap.size w w' := by
  have hsg : sgn (x : Int) = false := decide_eq_false (by omega)
  have hok : okB false (lms (x : Int)) = true := by rw [← hsg, ok_of_num]; exact decide_eq_true (by rw [Int.natAbs_natCast]; exact hx)
  have HRT := hide (fun (wx : World) (hs : Seg wx a (lms (x : Int)).length c (lms (x : Int))) => rootI x K a c wx hs hK hx)
  rw [hsg] at HRT
  have h1 : ¬ ((K : Int) + 1 < 1) := by omega
  have h2 : ¬ (64 < (K : Int) + 1) := by omega
  have HX := hide hx
  clear hx
  have ka0 : ((w.alloc (Obj.cells #[Value.bool false, Value.slice a (lms (x : Int)).length c] 26)).alloc (Obj.cells #[Value.bool false, Value.slice none 0 0] 26)).cell? ⟨w.heap.size, 0, none⟩ = some (Value.bool false) := by go_simp
  have ka1 : ((w.alloc (Obj.cells #[Value.bool false, Value.slice a (lms (x : Int)).length c] 26)).alloc (Obj.cells #[Value.bool false, Value.slice none 0 0] 26)).cell? ⟨w.heap.size, 1, none⟩ = some (Value.slice a (lms (x : Int)).length c) := by go_simp
  have kr0 : ((w.alloc (Obj.cells #[Value.bool false, Value.slice a (lms (x : Int)).length c] 26)).alloc (Obj.cells #[Value.bool false, Value.slice none 0 0] 26)).cell? ⟨w.heap.size + 1, 0, none⟩ = some (Value.bool false) := by go_simp
  have fr0 : ((w.alloc (Obj.cells #[Value.bool false, Value.slice a (lms (x : Int)).length c] 26)).alloc (Obj.cells #[Value.bool false, Value.slice none 0 0] 26)).frozen? ⟨w.heap.size + 1, 0, none⟩ = false := by go_simp
  have kr1 : ((w.alloc (Obj.cells #[Value.bool false, Value.slice a (lms (x : Int)).length c] 26)).alloc (Obj.cells #[Value.bool false, Value.slice none 0 0] 26)).cell? ⟨w.heap.size + 1, 1, none⟩ = some (Value.slice none 0 0) := by go_simp
  have fr1 : ((w.alloc (Obj.cells #[Value.bool false, Value.slice a (lms (x : Int)).length c] 26)).alloc (Obj.cells #[Value.bool false, Value.slice none 0 0] 26)).frozen? ⟨w.heap.size + 1, 1, none⟩ = false := by go_simp
  have zr : w.heap.size + 1 < ((w.alloc (Obj.cells #[Value.bool false, Value.slice a (lms (x : Int)).length c] 26)).alloc (Obj.cells #[Value.bool false, Value.slice none 0 0] 26)).heap.size := by simp only [World.size_alloc]; omega
  have HB := hide (bl_alloc (bl_alloc (bl_refl w) (Obj.cells #[Value.bool false, Value.slice a (lms (x : Int)).length c] 26)) (Obj.cells #[Value.bool false, Value.slice none 0 0] 26))
  have S1 := hide (s1.below HB.out)
  clear s1
  go_enter Try.func7, Try.ntmps7
  go_wp2_with fail
  generalize ((w.alloc (Obj.cells #[Value.bool false, Value.slice a (lms (x : Int)).length c] 26)).alloc (Obj.cells #[Value.bool false, Value.slice none 0 0] 26)) = w1 at *
  have z0 := zr
  refine (okI _ false (lms (x : Int)) _ ⟨a, c, rfl, S1.out⟩).mono ?_
  rintro e w2 ⟨rfl, hb⟩
  have yw2 := hb.size
  replace ka0 := (hb.cell (p := ⟨w.heap.size, 0, none⟩) (by dsimp only; omega)).trans ka0
  replace ka1 := (hb.cell (p := ⟨w.heap.size, 1, none⟩) (by dsimp only; omega)).trans ka1
  replace kr0 := (hb.cell (p := ⟨w.heap.size + 1, 0, none⟩) (by dsimp only; omega)).trans kr0
  replace fr0 := (hb.frozen (p := ⟨w.heap.size + 1, 0, none⟩) (by dsimp only; omega)).trans fr0
  replace kr1 := (hb.cell (p := ⟨w.heap.size + 1, 1, none⟩) (by dsimp only; omega)).trans kr1
  replace fr1 := (hb.frozen (p := ⟨w.heap.size + 1, 1, none⟩) (by dsimp only; omega)).trans fr1
  replace S1 := hide (S1.out.below hb)
  replace zr := Nat.lt_of_lt_of_le zr hb.size
  replace HB := hide (bl_trans HB.out hb)
  clear hb
  rw [hok]
  go_wp2_with fail
  refine (HRT.out _ S1.out).mono ?_
  rintro e w3 ⟨_, r, rfl, ⟨ar, cr, rfl, hor⟩, hroot, hb⟩
  have yw3 := hb.size
  replace ka0 := (hb.cell (p := ⟨w.heap.size, 0, none⟩) (by dsimp only; omega)).trans ka0
  replace ka1 := (hb.cell (p := ⟨w.heap.size, 1, none⟩) (by dsimp only; omega)).trans ka1
  replace kr0 := (hb.cell (p := ⟨w.heap.size + 1, 0, none⟩) (by dsimp only; omega)).trans kr0
  replace fr0 := (hb.frozen (p := ⟨w.heap.size + 1, 0, none⟩) (by dsimp only; omega)).trans fr0
  replace kr1 := (hb.cell (p := ⟨w.heap.size + 1, 1, none⟩) (by dsimp only; omega)).trans kr1
  replace fr1 := (hb.frozen (p := ⟨w.heap.size + 1, 1, none⟩) (by dsimp only; omega)).trans fr1
  replace S1 := hide (S1.out.below hb)
  replace zr := Nat.lt_of_lt_of_le zr hb.size
  replace HB := hide (bl_trans HB.out hb)
  clear hb
  have HRO := hide hroot
  clear hroot
  have OR := hide hor
  clear hor
  have yw4 : w3.heap.size + 1 ≤ (w3.alloc (Obj.cells #[Value.bool (sgn ((r : Nat) : Int)), Value.slice ar (lms ((r : Nat) : Int)).length cr] 26)).heap.size := by simp only [World.size_alloc]; omega
  have kg0 : (w3.alloc (Obj.cells #[Value.bool (sgn ((r : Nat) : Int)), Value.slice ar (lms ((r : Nat) : Int)).length cr] 26)).cell? ⟨w3.heap.size, 0, none⟩ = some (Value.bool (sgn ((r : Nat) : Int))) := by go_simp
  have kg1 : (w3.alloc (Obj.cells #[Value.bool (sgn ((r : Nat) : Int)), Value.slice ar (lms ((r : Nat) : Int)).length cr] 26)).cell? ⟨w3.heap.size, 1, none⟩ = some (Value.slice ar (lms ((r : Nat) : Int)).length cr) := by go_simp
  have hbn := (bl_alloc (bl_refl w3) (Obj.cells #[Value.bool (sgn ((r : Nat) : Int)), Value.slice ar (lms ((r : Nat) : Int)).length cr] 26))
  replace ka0 := (hbn.cell (p := ⟨w.heap.size, 0, none⟩) (by dsimp only; omega)).trans ka0
  replace ka1 := (hbn.cell (p := ⟨w.heap.size, 1, none⟩) (by dsimp only; omega)).trans ka1
  replace kr0 := (hbn.cell (p := ⟨w.heap.size + 1, 0, none⟩) (by dsimp only; omega)).trans kr0
  replace fr0 := (hbn.frozen (p := ⟨w.heap.size + 1, 0, none⟩) (by dsimp only; omega)).trans fr0
  replace kr1 := (hbn.cell (p := ⟨w.heap.size + 1, 1, none⟩) (by dsimp only; omega)).trans kr1
  replace fr1 := (hbn.frozen (p := ⟨w.heap.size + 1, 1, none⟩) (by dsimp only; omega)).trans fr1
  replace S1 := hide (S1.out.below hbn)
  replace OR := hide (OR.out.below hbn)
  replace zr := Nat.lt_of_lt_of_le zr hbn.size
  replace HB := hide (bl_trans HB.out hbn)
  clear hbn
  go_wp2_with fail
  generalize (w3.alloc (Obj.cells #[Value.bool (sgn ((r : Nat) : Int)), Value.slice ar (lms ((r : Nat) : Int)).length cr] 26)) = w4 at *
  have hne1 : ¬ w3.heap.size = w.heap.size + 1 := by omega
  have hne2 : ¬ w.heap.size + 1 = w3.heap.size := by omega
  have zg : w3.heap.size < w4.heap.size := by omega
  have z0' : w.heap.size + 1 < w4.heap.size := by omega
  have KP : Hid (∀ w', Below w4.heap.size w4 w' → (w'.cell? ⟨w3.heap.size, 0, none⟩ = some (Value.bool (sgn ((r : Nat) : Int))) ∧ w'.cell? ⟨w3.heap.size, 1, none⟩ = some (Value.slice ar (lms ((r : Nat) : Int)).length cr) ∧ w'.cell? ⟨w.heap.size, 0, none⟩ = some (Value.bool false) ∧ w'.cell? ⟨w.heap.size, 1, none⟩ = some (Value.slice a (lms (x : Int)).length c) ∧ Hid (Below w.heap.size w4 w'))) := hide (fun w' hb => ⟨(hb.cell (p := ⟨w3.heap.size, 0, none⟩) zg).trans kg0, (hb.cell (p := ⟨w3.heap.size, 1, none⟩) zg).trans kg1, (hb.cell (p := ⟨w.heap.size, 0, none⟩) (by dsimp only; omega)).trans ka0, (hb.cell (p := ⟨w.heap.size, 1, none⟩) (by dsimp only; omega)).trans ka1, hide (hb.mono (by omega))⟩)
  go_region_held3 (fun w' => w'.cell? ⟨w3.heap.size, 0, none⟩ = some (Value.bool (sgn ((r : Nat) : Int))) ∧ w'.cell? ⟨w3.heap.size, 1, none⟩ = some (Value.slice ar (lms ((r : Nat) : Int)).length cr) ∧ w'.cell? ⟨w.heap.size, 0, none⟩ = some (Value.bool false) ∧ w'.cell? ⟨w.heap.size, 1, none⟩ = some (Value.slice a (lms (x : Int)).length c) ∧ Hid (Below w.heap.size w4 w'))
    (first | exact KP.out _ (bl_refl w4).drew | exact KP.out _ bB | exact KP.out _ bA | exact KP.out _ (bl_refl w4).drew.drew | exact ⟨by go_simp, by go_simp, by go_simp, by go_simp, hide ((((bB.mono (by omega)).setCell (p := ⟨w.heap.size + 1, 0, none⟩) (by dsimp only; omega) _).setCell (p := ⟨w.heap.size + 1, 1, none⟩) (by dsimp only; omega) _))⟩)
    (first
      | (go_at_call 33; refine (powI1 _ x r K _ HX.out (root_le HRO.out) hK ⟨ar, cr, rfl, OR.out.seg.below (by first | exact bl_refl _ | exact (bl_refl _).drew | exact (bl_refl _).drew.drew)⟩).mono ?_; rintro e wA ⟨_, qq, rfl, ⟨uA, vA, rfl, hoA⟩, hpl, hbAr⟩; have bA : Below w4.heap.size w4 wA := (by first | exact hbAr | exact (bl_refl _).drew.trans hbAr | exact (bl_refl _).drew.drew.trans hbAr); have HPL := hide hpl; have HPS := hide hoA.seg; have XS : Hid (Is wA (.agg #[.bool false, .slice a (lms (x : Int)).length c]) (x : Int)) := hide (by rw [← hsg]; exact ⟨a, c, rfl, S1.out.below bA⟩); clear hoA hbAr hpl)
      | (go_at_call 32; refine (cmpBI _ _ qq (x : Int) _ ⟨uA, vA, rfl, HPS.out⟩ XS.out).mono ?_; rintro e wB ⟨rfl, hbB⟩; have bB : Below w4.heap.size w4 wB := bl_trans bA hbB; have yB := bB.size; have HCR := hide (cmp_root HX.out HPL.out); have kr0 := (bB.cell (p := ⟨w.heap.size + 1, 0, none⟩) z0').trans kr0; have fr0 := (bB.frozen (p := ⟨w.heap.size + 1, 0, none⟩) z0').trans fr0; have kg0 := (bB.cell (p := ⟨w3.heap.size, 0, none⟩) zg).trans kg0; have ka0 := (bB.cell (p := ⟨w.heap.size, 0, none⟩) (by dsimp only; omega)).trans ka0; have kr1 := (bB.cell (p := ⟨w.heap.size + 1, 1, none⟩) z0').trans kr1; have fr1 := (bB.frozen (p := ⟨w.heap.size + 1, 1, none⟩) z0').trans fr1; have kg1 := (bB.cell (p := ⟨w3.heap.size, 1, none⟩) zg).trans kg1; have ka1 := (bB.cell (p := ⟨w.heap.size, 1, none⟩) (by dsimp only; omega)).trans ka1; clear hbB))
  all_goals go_wp2
  all_goals refine bodyPost_ret (v := .tuple #[Value.agg #[Value.bool (sgn ((r : Nat) : Int)), Value.slice ar (lms ((r : Nat) : Int)).length cr], .bool (cmpZ qq (x : Int) == 0)]) (by simp [results, Try.results7, go_sem, kr0, kr1]) rfl ?_
  have hz2 := HB.out.size
  all_goals exact ⟨ar, cr, r, by rw [HCR.out], HRO.out, (((OR.out.below bB).setCell (p := ⟨w.heap.size + 1, 0, none⟩) (by dsimp only; omega) _).setCell (p := ⟨w.heap.size + 1, 1, none⟩) (by dsimp only; omega) _).mono (by omega), (((bl_trans HB.out bB).setCell (p := ⟨w.heap.size + 1, 0, none⟩) (by dsimp only; omega) _).setCell (p := ⟨w.heap.size + 1, 1, none⟩) (by dsimp only; omega) _)⟩

set_option maxHeartbeats 8000000 in
set_option maxRecDepth 20000 in
theorem rootQyes (x K : Nat) (a : Option Addr) (c : Nat) (w : World) (s1 : Seg w a (lms (x : Int)).length c (lms (x : Int))) (hK : K ≤ 63) (hx : x < 4294967296 ^ 40) :
    Calls Try.prog 43 #[Value.agg #[Value.bool false, Value.slice a (lms (x : Int)).length c], .int .i64 ((K : Int) + 1)] w fun e w' => ∃ a1 c1 r, e = .returned (.tuple #[.agg #[.bool (sgn ((r : Nat) : Int)), .slice a1 (lms ((r : Nat) : Int)).length c1], .bool (decide (r ^ (K + 1) = x))]) ∧ Root (K + 1) x r ∧ Own w' w.heap.size a1 (lms ((r : Nat) : Int)).length c1 (lms ((r : Nat) : Int)) ∧ Below w.heap.size w w' := by
  have hsg : sgn (x : Int) = false := decide_eq_false (by omega)
  have hok : okB false (lms (x : Int)) = true := by rw [← hsg, ok_of_num]; exact decide_eq_true (by rw [Int.natAbs_natCast]; exact hx)
  have HRT := hide (fun (wx : World) (hs : Seg wx a (lms (x : Int)).length c (lms (x : Int))) => rootS x K a c wx hs hK hx)
  rw [hsg] at HRT
  have h1 : ¬ ((K : Int) + 1 < 1) := by omega
  have h2 : ¬ (64 < (K : Int) + 1) := by omega
  have HX := hide hx
  clear hx
  have ka0 : ((w.alloc (Obj.cells #[Value.bool false, Value.slice a (lms (x : Int)).length c] 26)).alloc (Obj.cells #[Value.bool false, Value.slice none 0 0] 26)).cell? ⟨w.heap.size, 0, none⟩ = some (Value.bool false) := by go_simp
  have ka1 : ((w.alloc (Obj.cells #[Value.bool false, Value.slice a (lms (x : Int)).length c] 26)).alloc (Obj.cells #[Value.bool false, Value.slice none 0 0] 26)).cell? ⟨w.heap.size, 1, none⟩ = some (Value.slice a (lms (x : Int)).length c) := by go_simp
  have kr0 : ((w.alloc (Obj.cells #[Value.bool false, Value.slice a (lms (x : Int)).length c] 26)).alloc (Obj.cells #[Value.bool false, Value.slice none 0 0] 26)).cell? ⟨w.heap.size + 1, 0, none⟩ = some (Value.bool false) := by go_simp
  have fr0 : ((w.alloc (Obj.cells #[Value.bool false, Value.slice a (lms (x : Int)).length c] 26)).alloc (Obj.cells #[Value.bool false, Value.slice none 0 0] 26)).frozen? ⟨w.heap.size + 1, 0, none⟩ = false := by go_simp
  have kr1 : ((w.alloc (Obj.cells #[Value.bool false, Value.slice a (lms (x : Int)).length c] 26)).alloc (Obj.cells #[Value.bool false, Value.slice none 0 0] 26)).cell? ⟨w.heap.size + 1, 1, none⟩ = some (Value.slice none 0 0) := by go_simp
  have fr1 : ((w.alloc (Obj.cells #[Value.bool false, Value.slice a (lms (x : Int)).length c] 26)).alloc (Obj.cells #[Value.bool false, Value.slice none 0 0] 26)).frozen? ⟨w.heap.size + 1, 1, none⟩ = false := by go_simp
  have zr : w.heap.size + 1 < ((w.alloc (Obj.cells #[Value.bool false, Value.slice a (lms (x : Int)).length c] 26)).alloc (Obj.cells #[Value.bool false, Value.slice none 0 0] 26)).heap.size := by simp only [World.size_alloc]; omega
  have HB := hide (bl_alloc (bl_alloc (bl_refl w) (Obj.cells #[Value.bool false, Value.slice a (lms (x : Int)).length c] 26)) (Obj.cells #[Value.bool false, Value.slice none 0 0] 26))
  have S1 := hide (s1.below HB.out)
  clear s1
  go_enter Try.func43, Try.ntmps43
  go_wp2_with fail
  generalize ((w.alloc (Obj.cells #[Value.bool false, Value.slice a (lms (x : Int)).length c] 26)).alloc (Obj.cells #[Value.bool false, Value.slice none 0 0] 26)) = w1 at *
  have z0 := zr
  refine (okS _ false (lms (x : Int)) _ ⟨a, c, rfl, S1.out⟩).mono ?_
  rintro e w2 ⟨rfl, hb⟩
  have yw2 := hb.size
  replace ka0 := (hb.cell (p := ⟨w.heap.size, 0, none⟩) (by dsimp only; omega)).trans ka0
  replace ka1 := (hb.cell (p := ⟨w.heap.size, 1, none⟩) (by dsimp only; omega)).trans ka1
  replace kr0 := (hb.cell (p := ⟨w.heap.size + 1, 0, none⟩) (by dsimp only; omega)).trans kr0
  replace fr0 := (hb.frozen (p := ⟨w.heap.size + 1, 0, none⟩) (by dsimp only; omega)).trans fr0
  replace kr1 := (hb.cell (p := ⟨w.heap.size + 1, 1, none⟩) (by dsimp only; omega)).trans kr1
  replace fr1 := (hb.frozen (p := ⟨w.heap.size + 1, 1, none⟩) (by dsimp only; omega)).trans fr1
  replace S1 := hide (S1.out.below hb)
  replace zr := Nat.lt_of_lt_of_le zr hb.size
  replace HB := hide (bl_trans HB.out hb)
  clear hb
  rw [hok]
  go_wp2_with fail
  refine (inS ((K : Int) + 1) 1 64 _).mono ?_
  rintro e w9 ⟨rfl, rfl⟩
  rw [decide_eq_true (show (1 : Int) ≤ (K : Int) + 1 ∧ (K : Int) + 1 ≤ 64 by omega)]
  go_wp2_with fail
  refine (HRT.out _ S1.out).mono ?_
  rintro e w3 ⟨_, r, rfl, ⟨ar, cr, rfl, hor⟩, hroot, hb⟩
  have yw3 := hb.size
  replace ka0 := (hb.cell (p := ⟨w.heap.size, 0, none⟩) (by dsimp only; omega)).trans ka0
  replace ka1 := (hb.cell (p := ⟨w.heap.size, 1, none⟩) (by dsimp only; omega)).trans ka1
  replace kr0 := (hb.cell (p := ⟨w.heap.size + 1, 0, none⟩) (by dsimp only; omega)).trans kr0
  replace fr0 := (hb.frozen (p := ⟨w.heap.size + 1, 0, none⟩) (by dsimp only; omega)).trans fr0
  replace kr1 := (hb.cell (p := ⟨w.heap.size + 1, 1, none⟩) (by dsimp only; omega)).trans kr1
  replace fr1 := (hb.frozen (p := ⟨w.heap.size + 1, 1, none⟩) (by dsimp only; omega)).trans fr1
  replace S1 := hide (S1.out.below hb)
  replace zr := Nat.lt_of_lt_of_le zr hb.size
  replace HB := hide (bl_trans HB.out hb)
  clear hb
  have HRO := hide hroot
  clear hroot
  have OR := hide hor
  clear hor
  have yw4 : w3.heap.size + 1 ≤ (w3.alloc (Obj.cells #[Value.bool (sgn ((r : Nat) : Int)), Value.slice ar (lms ((r : Nat) : Int)).length cr] 26)).heap.size := by simp only [World.size_alloc]; omega
  have kg0 : (w3.alloc (Obj.cells #[Value.bool (sgn ((r : Nat) : Int)), Value.slice ar (lms ((r : Nat) : Int)).length cr] 26)).cell? ⟨w3.heap.size, 0, none⟩ = some (Value.bool (sgn ((r : Nat) : Int))) := by go_simp
  have kg1 : (w3.alloc (Obj.cells #[Value.bool (sgn ((r : Nat) : Int)), Value.slice ar (lms ((r : Nat) : Int)).length cr] 26)).cell? ⟨w3.heap.size, 1, none⟩ = some (Value.slice ar (lms ((r : Nat) : Int)).length cr) := by go_simp
  have hbn := (bl_alloc (bl_refl w3) (Obj.cells #[Value.bool (sgn ((r : Nat) : Int)), Value.slice ar (lms ((r : Nat) : Int)).length cr] 26))
  replace ka0 := (hbn.cell (p := ⟨w.heap.size, 0, none⟩) (by dsimp only; omega)).trans ka0
  replace ka1 := (hbn.cell (p := ⟨w.heap.size, 1, none⟩) (by dsimp only; omega)).trans ka1
  replace kr0 := (hbn.cell (p := ⟨w.heap.size + 1, 0, none⟩) (by dsimp only; omega)).trans kr0
  replace fr0 := (hbn.frozen (p := ⟨w.heap.size + 1, 0, none⟩) (by dsimp only; omega)).trans fr0
  replace kr1 := (hbn.cell (p := ⟨w.heap.size + 1, 1, none⟩) (by dsimp only; omega)).trans kr1
  replace fr1 := (hbn.frozen (p := ⟨w.heap.size + 1, 1, none⟩) (by dsimp only; omega)).trans fr1
  replace S1 := hide (S1.out.below hbn)
  replace OR := hide (OR.out.below hbn)
  replace zr := Nat.lt_of_lt_of_le zr hbn.size
  replace HB := hide (bl_trans HB.out hbn)
  clear hbn
  go_wp2_with fail
  generalize (w3.alloc (Obj.cells #[Value.bool (sgn ((r : Nat) : Int)), Value.slice ar (lms ((r : Nat) : Int)).length cr] 26)) = w4 at *
  have hne1 : ¬ w3.heap.size = w.heap.size + 1 := by omega
  have hne2 : ¬ w.heap.size + 1 = w3.heap.size := by omega
  have zg : w3.heap.size < w4.heap.size := by omega
  have z0' : w.heap.size + 1 < w4.heap.size := by omega
  have KP : Hid (∀ w', Below w4.heap.size w4 w' → (w'.cell? ⟨w3.heap.size, 0, none⟩ = some (Value.bool (sgn ((r : Nat) : Int))) ∧ w'.cell? ⟨w3.heap.size, 1, none⟩ = some (Value.slice ar (lms ((r : Nat) : Int)).length cr) ∧ w'.cell? ⟨w.heap.size, 0, none⟩ = some (Value.bool false) ∧ w'.cell? ⟨w.heap.size, 1, none⟩ = some (Value.slice a (lms (x : Int)).length c) ∧ Hid (Below w.heap.size w4 w'))) := hide (fun w' hb => ⟨(hb.cell (p := ⟨w3.heap.size, 0, none⟩) zg).trans kg0, (hb.cell (p := ⟨w3.heap.size, 1, none⟩) zg).trans kg1, (hb.cell (p := ⟨w.heap.size, 0, none⟩) (by dsimp only; omega)).trans ka0, (hb.cell (p := ⟨w.heap.size, 1, none⟩) (by dsimp only; omega)).trans ka1, hide (hb.mono (by omega))⟩)
  have L60 : Hid ((lms ((r : Nat) : Int)).length ≤ 60) := hide (Nat.le_trans (Num.limbs_len.2 (by rw [Int.natAbs_natCast]; exact Nat.lt_of_le_of_lt (root_le HRO.out) HX.out)) (by decide))
  go_region_held3 (fun w' => w'.cell? ⟨w3.heap.size, 0, none⟩ = some (Value.bool (sgn ((r : Nat) : Int))) ∧ w'.cell? ⟨w3.heap.size, 1, none⟩ = some (Value.slice ar (lms ((r : Nat) : Int)).length cr) ∧ w'.cell? ⟨w.heap.size, 0, none⟩ = some (Value.bool false) ∧ w'.cell? ⟨w.heap.size, 1, none⟩ = some (Value.slice a (lms (x : Int)).length c) ∧ Hid (Below w.heap.size w4 w'))
    (first | exact KP.out _ (bl_refl w4).drew | exact KP.out _ bB | exact KP.out _ bA | exact KP.out _ (bl_refl w4).drew.drew | exact ⟨by go_simp, by go_simp, by go_simp, by go_simp, hide ((((bB.mono (by omega)).setCell (p := ⟨w.heap.size + 1, 0, none⟩) (by dsimp only; omega) _).setCell (p := ⟨w.heap.size + 1, 1, none⟩) (by dsimp only; omega) _))⟩)
    (first
      | (go_at_call 24; refine (powK _ r K _ ⟨ar, cr, rfl, OR.out.seg.below (by first | exact bl_refl _ | exact (bl_refl _).drew | exact (bl_refl _).drew.drew)⟩ hK L60.out).mono ?_; rintro e wA ⟨_, qq, rfl, ⟨uA, vA, rfl, hoA⟩, hpl, hbAr⟩; have bA : Below w4.heap.size w4 wA := (by first | exact hbAr | exact (bl_refl _).drew.trans hbAr | exact (bl_refl _).drew.drew.trans hbAr); have HPL := hide hpl; have HPS := hide hoA.seg; have XS : Hid (Is wA (.agg #[.bool false, .slice a (lms (x : Int)).length c]) (x : Int)) := hide (by rw [← hsg]; exact ⟨a, c, rfl, S1.out.below bA⟩); clear hoA hbAr hpl)
      | (go_at_call 76; refine (cmpS _ _ qq (x : Int) _ ⟨uA, vA, rfl, HPS.out⟩ XS.out).mono ?_; rintro e wB ⟨rfl, hbB⟩; have bB : Below w4.heap.size w4 wB := bl_trans bA hbB; have yB := bB.size; have HCR := hide (cmp_root HX.out HPL.out); have kr0 := (bB.cell (p := ⟨w.heap.size + 1, 0, none⟩) z0').trans kr0; have fr0 := (bB.frozen (p := ⟨w.heap.size + 1, 0, none⟩) z0').trans fr0; have kg0 := (bB.cell (p := ⟨w3.heap.size, 0, none⟩) zg).trans kg0; have ka0 := (bB.cell (p := ⟨w.heap.size, 0, none⟩) (by dsimp only; omega)).trans ka0; have kr1 := (bB.cell (p := ⟨w.heap.size + 1, 1, none⟩) z0').trans kr1; have fr1 := (bB.frozen (p := ⟨w.heap.size + 1, 1, none⟩) z0').trans fr1; have kg1 := (bB.cell (p := ⟨w3.heap.size, 1, none⟩) zg).trans kg1; have ka1 := (bB.cell (p := ⟨w.heap.size, 1, none⟩) (by dsimp only; omega)).trans ka1; clear hbB))
  all_goals go_wp2
  all_goals refine bodyPost_ret (v := .tuple #[Value.agg #[Value.bool (sgn ((r : Nat) : Int)), Value.slice ar (lms ((r : Nat) : Int)).length cr], .bool (cmpZ qq (x : Int) == 0)]) (by simp [results, Try.results43, go_sem, kr0, kr1]) rfl ?_
  have hz2 := HB.out.size
  all_goals exact ⟨ar, cr, r, by rw [HCR.out], HRO.out, (((OR.out.below bB).setCell (p := ⟨w.heap.size + 1, 0, none⟩) (by dsimp only; omega) _).setCell (p := ⟨w.heap.size + 1, 1, none⟩) (by dsimp only; omega) _).mono (by omega), (((bl_trans HB.out bB).setCell (p := ⟨w.heap.size + 1, 0, none⟩) (by dsimp only; omega) _).setCell (p := ⟨w.heap.size + 1, 1, none⟩) (by dsimp only; omega) _)⟩

theorem rootP (n : Bool) (xs : List Nat) (k : Int) (a : Option Addr) (c : Nat) (w : World) (s1 : Seg w a xs.length c xs) (hk1 : -9223372036854775808 ≤ k) (hk2 : k ≤ 9223372036854775807) :
    Calls Try.prog 7 #[Value.agg #[Value.bool n, Value.slice a xs.length c], .int .i64 k] w fun e w' => ∃ a1 c1, e = .returned (.tuple #[.agg #[.bool (sgn (rtZ n xs k)), .slice a1 (lms (rtZ n xs k)).length c1], .bool (rtE n xs k)]) ∧ Own w' w.heap.size a1 (lms (rtZ n xs k)).length c1 (lms (rtZ n xs k)) ∧ Below w.heap.size w w' := by
  cases h : rtB n xs k with
  | false => exact rootPno n xs k a c w s1 hk1 hk2 h
  | true =>
    obtain ⟨x, K, rfl, rfl, rfl, hK, hx⟩ := rt_args s1.2.2.2.1 h
    refine (rootPyes x K a c w s1 hK hx).mono ?_
    rintro e w' ⟨a1, c1, r, rfl, hr, ho, hb⟩
    obtain ⟨e1, e2⟩ := rt_yes hx hK hr
    rw [e1, e2]
    exact ⟨a1, c1, rfl, ho, hb⟩
theorem rootQ (n : Bool) (xs : List Nat) (k : Int) (a : Option Addr) (c : Nat) (w : World) (s1 : Seg w a xs.length c xs) (hk1 : -9223372036854775808 ≤ k) (hk2 : k ≤ 9223372036854775807) :
    Calls Try.prog 43 #[Value.agg #[Value.bool n, Value.slice a xs.length c], .int .i64 k] w fun e w' => ∃ a1 c1, e = .returned (.tuple #[.agg #[.bool (sgn (rtZ n xs k)), .slice a1 (lms (rtZ n xs k)).length c1], .bool (rtE n xs k)]) ∧ Own w' w.heap.size a1 (lms (rtZ n xs k)).length c1 (lms (rtZ n xs k)) ∧ Below w.heap.size w w' := by
  cases h : rtB n xs k with
  | false => exact rootQno n xs k a c w s1 hk1 hk2 h
  | true =>
    obtain ⟨x, K, rfl, rfl, rfl, hK, hx⟩ := rt_args s1.2.2.2.1 h
    refine (rootQyes x K a c w s1 hK hx).mono ?_
    rintro e w' ⟨a1, c1, r, rfl, hr, ho, hb⟩
    obtain ⟨e1, e2⟩ := rt_yes hx hK hr
    rw [e1, e2]
    exact ⟨a1, c1, rfl, ho, hb⟩
end Go.Proofs.Ythjapjbiclkhcaa

/- What the law of roots asks of numbers. -/
namespace Go.Proofs.Ythjapjbiclkhcaa
open Go.RowKit
set_option linter.unusedVariables false

theorem ok_fit (z : Int) : okB (sgn z) (lms z) = fits z := ok_of_num z
theorem sgn_nat (x : Nat) : sgn (x : Int) = false := decide_eq_false (by omega)
theorem num_self (z : Int) : mk (sgn z) (Num.nat (lms z)) = z := by rw [nat_lms, mk_self]
theorem fits_nat {x : Nat} (h : x < 4294967296 ^ 40) : fits (x : Int) = true := by unfold fits; rw [Int.natAbs_natCast]; exact decide_eq_true h
theorem nat_fits {x : Nat} (h : fits (x : Int) = true) : x < 4294967296 ^ 40 := by unfold fits at h; rw [Int.natAbs_natCast] at h; exact of_decide_eq_true h
/-- the power of a number that is right -/
theorem pow_right {r K : Nat} (hr : r < 4294967296 ^ 40) (hK : K ≤ 63) : pwT (sgn (r : Int)) (lms (r : Int)) ((K : Int) + 1) = fits ((r ^ (K + 1) : Nat) : Int) ∧ (fits ((r ^ (K + 1) : Nat) : Int) = true → pwZ (sgn (r : Int)) (lms (r : Int)) ((K : Int) + 1) = ((r ^ (K + 1) : Nat) : Int)) := by
  have e1 : ((K : Int) + 1).toNat = K + 1 := by omega
  have e2 : (r : Int) ^ (K + 1) = ((r ^ (K + 1) : Nat) : Int) := by push_cast; rfl
  have t : pwT (sgn (r : Int)) (lms (r : Int)) ((K : Int) + 1) = fits ((r ^ (K + 1) : Nat) : Int) := by
    unfold pwT
    rw [ok_fit, fits_nat hr, num_self, e1, e2, decide_eq_true (by omega)]
    rfl
  refine ⟨t, fun h => ?_⟩
  unfold pwZ
  rw [t, h, if_pos rfl, num_self, e1, e2]
theorem cmp_right {a b : Nat} (ha : fits (a : Int) = true) (hb : fits (b : Int) = true) : cmpR (sgn (a : Int)) (lms (a : Int)) (sgn (b : Int)) (lms (b : Int)) = cmpZ (a : Int) (b : Int) := by
  unfold cmpR
  rw [ok_fit, ok_fit, ha, hb, num_self, num_self]
  rfl
theorem add_right {r : Nat} (hr : r < 4294967296 ^ 40) : opT addZ (sgn (r : Int)) (lms (r : Int)) (sgn 1) (lms 1) = fits ((r + 1 : Nat) : Int) ∧ (fits ((r + 1 : Nat) : Int) = true → opZ addZ (sgn (r : Int)) (lms (r : Int)) (sgn 1) (lms 1) = ((r + 1 : Nat) : Int)) := by
  have e1 : fits (1 : Int) = true := fits_nat (x := 1) (by decide)
  have e2 : addZ (r : Int) 1 = ((r + 1 : Nat) : Int) := by unfold addZ; push_cast; rfl
  have t : opT addZ (sgn (r : Int)) (lms (r : Int)) (sgn 1) (lms 1) = fits ((r + 1 : Nat) : Int) := by
    unfold opT
    rw [ok_fit, ok_fit, fits_nat hr, e1, num_self, num_self, e2]
    rfl
  refine ⟨t, fun h => ?_⟩
  unfold opZ
  rw [t, h, if_pos rfl, num_self, num_self, e2]
/-- what the law asks of the root -/
theorem root_law {x K r : Nat} (hx : x < 4294967296 ^ 40) (hK : K ≤ 63) (h : Root (K + 1) x r) :
    r < 4294967296 ^ 40 ∧ pwT (sgn (r : Int)) (lms (r : Int)) ((K : Int) + 1) = true ∧ ∃ c : Int, cmpR (sgn (pwZ (sgn (r : Int)) (lms (r : Int)) ((K : Int) + 1))) (lms (pwZ (sgn (r : Int)) (lms (r : Int)) ((K : Int) + 1))) (sgn (x : Int)) (lms (x : Int)) = c ∧ c ≤ 0 ∧ decide (r ^ (K + 1) = x) = (c == 0) ∧ -1 ≤ c := by
  have hr : r < 4294967296 ^ 40 := Nat.lt_of_le_of_lt (root_le h) hx
  have hf : fits ((r ^ (K + 1) : Nat) : Int) = true := fits_nat (Nat.lt_of_le_of_lt h.1 hx)
  obtain ⟨h1, h2⟩ := pow_right hr hK
  refine ⟨hr, by rw [h1, hf], _, by rw [h2 hf, cmp_right hf (fits_nat hx)], ?_⟩
  have h3 := h.1
  generalize r ^ (K + 1) = p at *
  by_cases e : p = x
  · rw [cmp_eq (by rw [e]), decide_eq_true e]; exact ⟨by omega, rfl, by omega⟩
  · rw [cmp_lt (by omega), decide_eq_false e]; exact ⟨by omega, rfl, by omega⟩
theorem root_next {x K r : Nat} (hx : x < 4294967296 ^ 40) (hK : K ≤ 63) (h : Root (K + 1) x r) (s : Int) (hs : opZ addZ (sgn (r : Int)) (lms (r : Int)) (sgn 1) (lms 1) = s)
    (hf : opT addZ (sgn (r : Int)) (lms (r : Int)) (sgn 1) (lms 1) = true) (hg : pwT (sgn s) (lms s) ((K : Int) + 1) = true) :
    cmpR (sgn (pwZ (sgn s) (lms s) ((K : Int) + 1))) (lms (pwZ (sgn s) (lms s) ((K : Int) + 1))) (sgn (x : Int)) (lms (x : Int)) = 1 := by
  have hr : r < 4294967296 ^ 40 := Nat.lt_of_le_of_lt (root_le h) hx
  obtain ⟨h1, h2⟩ := add_right hr
  rw [h1] at hf
  rw [h2 hf] at hs
  subst hs
  obtain ⟨h3, h4⟩ := pow_right (r := r + 1) (nat_fits hf) hK
  rw [h3] at hg
  rw [h4 hg, cmp_right hg (fits_nat hx)]
  have h5 := h.2
  exact cmp_gt (by omega)
end Go.Proofs.Ythjapjbiclkhcaa
