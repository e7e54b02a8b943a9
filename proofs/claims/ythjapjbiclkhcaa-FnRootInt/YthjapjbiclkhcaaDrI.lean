/- The walk of the draw of the law of roots. -/
import Derived.Test.YthjapjbiclkhcaaPk23
import Derived.Test.YthjapjbiclkhcaaPk08
import Derived.Test.YthjapjbiclkhcaaPowR
import Derived.Test.YthjapjbiclkhcaaPk05
import Derived.Test.YthjapjbiclkhcaaPk01
import Derived.Deep.RegionHeld3
namespace Go.Proofs.Ythjapjbiclkhcaa
open Go.RowKit
set_option linter.unusedVariables false
set_option linter.unusedSimpArgs false
set_option maxRecDepth 20000

theorem Only.chg {B : Nat} {w w' : World} (h : Only B w w') : Chg (fun k => k = B) w w' := ⟨h.os, h.tape, h.output, h.size, fun k hk hn => h.block k hk hn⟩
theorem Chg.mono {P Q : Nat → Prop} {w w' : World} (h : Chg P w w') (hPQ : ∀ k, P k → Q k) : Chg Q w w' := ⟨h.os, h.tape, h.output, h.size, fun k hk hn => h.block k hk (fun q => hn (hPQ k q))⟩
theorem Own.chg {P : Nat → Prop} {w w' : World} {lo : Nat} {a : Option Addr} {n c : Nat} {xs : List Nat} (h : Own w lo a n c xs) (k : Chg P w w') (hp : ∀ b, lo ≤ b → ¬ P b) : Own w' lo a n c xs := by
  refine ⟨⟨h.1.1, ?_⟩, h.2⟩
  rcases h.1.2 with h' | ⟨g', cap', cur, hv, hg', hh, rest⟩
  · exact .inl h'
  · exact .inr ⟨g', cap', cur, hv, hg', (k.block g' (Array.getElem?_eq_some_iff.1 hh).1 (hp g' hg')).trans hh, rest⟩
/-- what DrawRootInt answers -/
def DrOut (w : World) (e : Ending) (w' : World) : Prop := ∃ n' a' c' xs, ∃ q : Int, e = .returned (.tuple #[.agg #[.bool n', .slice a' xs.length c'], .int .i64 q]) ∧ (-1 ≤ q ∧ q ≤ 65) ∧ Seg w' a' xs.length c' xs ∧ Below w.heap.size w w'
theorem drOut {w w' : World} {e : Ending} (n' : Bool) (a' : Option Addr) (c' : Nat) (xs : List Nat) (q : Int) (he : e = .returned (.tuple #[.agg #[.bool n', .slice a' xs.length c'], .int .i64 q])) (hq : -1 ≤ q ∧ q ≤ 65) (hs : Seg w' a' xs.length c' xs) (hb : Below w.heap.size w w') : DrOut w e w' := ⟨n', a', c', xs, q, he, hq, hs, hb⟩
theorem ints_bel {W W' : World} {L n : Nat} {P : Int → Prop} (h : ∀ j, j < n → ∃ z : Int, P z ∧ W.cell? ⟨L, j, none⟩ = some (.int .i64 z)) (hb : Below W.heap.size W W') (hl : L < W.heap.size) : ∀ j, j < n → ∃ z : Int, P z ∧ W'.cell? ⟨L, j, none⟩ = some (.int .i64 z) := fun j hj => by
  obtain ⟨z, h1, h2⟩ := h j hj
  exact ⟨z, h1, (hb.cell (p := ⟨L, j, none⟩) hl).trans h2⟩
theorem ints_only {B : Nat} {W W' : World} {L n : Nat} {P : Int → Prop} (h : ∀ j, j < n → ∃ z : Int, P z ∧ W.cell? ⟨L, j, none⟩ = some (.int .i64 z)) (hb : Only B W W') (hl : L < W.heap.size) (hn : L ≠ B) : ∀ j, j < n → ∃ z : Int, P z ∧ W'.cell? ⟨L, j, none⟩ = some (.int .i64 z) := fun j hj => by
  obtain ⟨z, h1, h2⟩ := h j hj
  exact ⟨z, h1, (hb.cell (p := ⟨L, j, none⟩) hl hn).trans h2⟩
theorem pow_len4 {z q : Int} {n : Nat} (h : PowLike z n q) (hz : (lms z).length ≤ 4) (hn : n ≤ 9) : (lms q).length ≤ 36 := by
  have h1 : z.natAbs < 4294967296 ^ 4 := Num.limbs_len.1 hz
  have h2 : (z ^ n).natAbs < 4294967296 ^ 36 := by
    rw [Int.natAbs_pow]
    rcases Nat.eq_zero_or_pos n with h0 | h0
    · subst h0; rw [Nat.pow_zero]; decide
    · exact Nat.lt_of_lt_of_le (Nat.pow_lt_pow_left h1 (by omega)) (by rw [← Nat.pow_mul]; exact Nat.pow_le_pow_right (by decide) (by omega))
  refine Num.limbs_len.2 ?_
  rcases h with rfl | ⟨_, h3, _⟩
  · exact h2
  · omega

set_option maxHeartbeats 8000000 in
theorem drawRootInt (a : Option Addr) (len cap : Nat) (w : World) (hr : Row a len cap w) :
    Calls Try.prog 6 #[.slice a len cap] w fun e w' => DrOut w e w' := by
  have HR := hide hr
  clear hr
  have Xr : Hid ((w.alloc (Obj.cells #[Value.bool false, Value.slice none 0 0] 26)).heap[w.heap.size]? = some (.cells #[Value.bool false, Value.slice none 0 0] 26 (0, 0))) := hide (by simpa only [World.size_alloc] using (hnew w (Obj.cells #[Value.bool false, Value.slice none 0 0] 26)))
  have HB : Hid (Below w.heap.size w (w.alloc (Obj.cells #[Value.bool false, Value.slice none 0 0] 26))) := hide (bl_alloc (bl_refl w) (Obj.cells #[Value.bool false, Value.slice none 0 0] 26))
  have yw1 : w.heap.size + 1 ≤ (w.alloc (Obj.cells #[Value.bool false, Value.slice none 0 0] 26)).heap.size := by simp only [World.size_alloc]; omega
  have kr0 : (w.alloc (Obj.cells #[Value.bool false, Value.slice none 0 0] 26)).cell? ⟨w.heap.size, 0, none⟩ = some (Value.bool false) := (Lib.cell_of_heap Xr.out 0).trans rfl
  have fr0 : (w.alloc (Obj.cells #[Value.bool false, Value.slice none 0 0] 26)).frozen? ⟨w.heap.size, 0, none⟩ = false := Lib.frozen_of_heap Xr.out 0
  have kr1 : (w.alloc (Obj.cells #[Value.bool false, Value.slice none 0 0] 26)).cell? ⟨w.heap.size, 1, none⟩ = some (Value.slice none 0 0) := (Lib.cell_of_heap Xr.out 1).trans rfl
  have fr1 : (w.alloc (Obj.cells #[Value.bool false, Value.slice none 0 0] 26)).frozen? ⟨w.heap.size, 1, none⟩ = false := Lib.frozen_of_heap Xr.out 1
  have zr : w.heap.size < (w.alloc (Obj.cells #[Value.bool false, Value.slice none 0 0] 26)).heap.size := hlt Xr.out
  go_enter Try.func6, Try.ntmps6
  go_wp2_with fail
  generalize (w.alloc (Obj.cells #[Value.bool false, Value.slice none 0 0] 26)) = w1 at *
  have HR1 := hide (HR.out.bel HB.out)
  obtain ⟨B, hBdef⟩ : ∃ B, B = w1.heap.size := ⟨_, rfl⟩
  have HBD := hide hBdef
  refine (newD a len cap _ HR1.out).mono ?_
  rintro e w2 ⟨rfl, hcN, hb⟩
  have yw2 := hb.size
  clear kr0 fr0 kr1 fr1 zr
  replace Xr := hide (hbel Xr.out hb (by first | assumption | omega))
  replace HB := hide (bl_trans HB.out hb)
  clear hb
  have kr0 : w2.cell? ⟨w.heap.size, 0, none⟩ = some (Value.bool false) := (Lib.cell_of_heap Xr.out 0).trans rfl
  have fr0 : w2.frozen? ⟨w.heap.size, 0, none⟩ = false := Lib.frozen_of_heap Xr.out 0
  have kr1 : w2.cell? ⟨w.heap.size, 1, none⟩ = some (Value.slice none 0 0) := (Lib.cell_of_heap Xr.out 1).trans rfl
  have fr1 : w2.frozen? ⟨w.heap.size, 1, none⟩ = false := Lib.frozen_of_heap Xr.out 1
  have zr : w.heap.size < w2.heap.size := hlt Xr.out
  rw [← hBdef] at hcN ⊢
  have hBw : w.heap.size < B := by omega
  clear hBdef HR HR1
  have HC := hide hcN
  clear hcN
  go_wp2_with fail
  refine (belowD B a len cap _ HC.out 9 (by omega)).mono ?_
  rintro e w3 ⟨y, hy, rfl, hcN, hoN⟩
  have yw3 := hoN.size
  have hy' : 0 ≤ y ∧ y < 9 := by rcases hy with h | h <;> omega
  obtain ⟨hya, hyb⟩ := hy'
  clear hy
  clear kr0 fr0 kr1 fr1 zr
  have hc := hoN.chg
  replace Xr := hide (hc.heap Xr.out (by omega))
  replace HB := hide (Chg.keep HB.out hc (fun k e => by omega) HB.out.size)
  replace HC := hide hcN
  clear hcN hoN hc
  have kr0 : w3.cell? ⟨w.heap.size, 0, none⟩ = some (Value.bool false) := (Lib.cell_of_heap Xr.out 0).trans rfl
  have fr0 : w3.frozen? ⟨w.heap.size, 0, none⟩ = false := Lib.frozen_of_heap Xr.out 0
  have kr1 : w3.cell? ⟨w.heap.size, 1, none⟩ = some (Value.slice none 0 0) := (Lib.cell_of_heap Xr.out 1).trans rfl
  have fr1 : w3.frozen? ⟨w.heap.size, 1, none⟩ = false := Lib.frozen_of_heap Xr.out 1
  have zr : w.heap.size < w3.heap.size := hlt Xr.out
  obtain ⟨K, hK⟩ : ∃ K : Nat, (1 : Int) + y = (K : Int) := ⟨(1 + y).toNat, by omega⟩
  have hK1 : 1 ≤ K ∧ K ≤ 9 := by omega
  obtain ⟨hKa, hKb⟩ := hK1
  go_wp2_with fail
  clear hK hya hyb
  refine (onceD B a len cap _ HC.out 2 (by omega)).mono ?_
  rintro e w4 ⟨bt, rfl, hcN, hoN⟩
  have yw4 := hoN.size
  clear kr0 fr0 kr1 fr1 zr
  have hc := hoN.chg
  replace Xr := hide (hc.heap Xr.out (by omega))
  replace HB := hide (Chg.keep HB.out hc (fun k e => by omega) HB.out.size)
  replace HC := hide hcN
  clear hcN hoN hc
  have kr0 : w4.cell? ⟨w.heap.size, 0, none⟩ = some (Value.bool false) := (Lib.cell_of_heap Xr.out 0).trans rfl
  have fr0 : w4.frozen? ⟨w.heap.size, 0, none⟩ = false := Lib.frozen_of_heap Xr.out 0
  have kr1 : w4.cell? ⟨w.heap.size, 1, none⟩ = some (Value.slice none 0 0) := (Lib.cell_of_heap Xr.out 1).trans rfl
  have fr1 : w4.frozen? ⟨w.heap.size, 1, none⟩ = false := Lib.frozen_of_heap Xr.out 1
  have zr : w.heap.size < w4.heap.size := hlt Xr.out
  cases bt with
  | true =>
    go_wp2_with fail
    have hzB0 := HC.out.hB
    refine (bigD 4 B a len cap _ HC.out (by omega)).mono ?_
    rintro e w5 ⟨z, aZ, cZ, rfl, hlZ, hoZ, hcN, hoN⟩
    have yw5 := hoN.size
    clear kr0 fr0 kr1 fr1 zr
    have hc := hoN.chg
    replace Xr := hide (hc.heap Xr.out (by omega))
    replace HB := hide (Chg.keep HB.out hc (fun k e => by omega) HB.out.size)
    replace HC := hide hcN
    have HOZ := hide hoZ
    clear hcN hoN hc hoZ
    have kr0 : w5.cell? ⟨w.heap.size, 0, none⟩ = some (Value.bool false) := (Lib.cell_of_heap Xr.out 0).trans rfl
    have fr0 : w5.frozen? ⟨w.heap.size, 0, none⟩ = false := Lib.frozen_of_heap Xr.out 0
    have kr1 : w5.cell? ⟨w.heap.size, 1, none⟩ = some (Value.slice none 0 0) := (Lib.cell_of_heap Xr.out 1).trans rfl
    have fr1 : w5.frozen? ⟨w.heap.size, 1, none⟩ = false := Lib.frozen_of_heap Xr.out 1
    have zr : w.heap.size < w5.heap.size := hlt Xr.out
    have hFL : ∀ W, Sem.run Try.prog (Instr.field 26 (.agg #[.bool (sgn z), .slice aZ (lms z).length cZ]) 1) W = .ok (.slice aZ (lms z).length cZ) W := fun W => field_limbs _ _ W ⟨_, _, _, rfl⟩
    go_wp2_with fail
    clear hFL
    have hmz : (lms z).length ≤ 1048576 := by omega
    refine (makeS false aZ _ cZ (lms z) _ HOZ.out.seg hmz).mono ?_
    rintro e w6 ⟨vP, rfl, hvP, hb⟩
    have yw6 := hb.size
    rw [nat_lms] at hvP
    obtain ⟨zP, hzP⟩ : ∃ zP, mk false z.natAbs = zP := ⟨_, rfl⟩
    have hzl : (lms zP).length ≤ 4 := by rw [← hzP, mk_lms]; exact hlZ
    rw [hzP] at hvP
    clear hzP hlZ hmz HOZ
    have HVP := hide hvP
    clear hvP
    clear kr0 fr0 kr1 fr1 zr
    replace Xr := hide (hbel Xr.out hb (by first | assumption | omega))
    replace HB := hide (bl_trans HB.out hb)
    replace HC := hide (HC.out.bel hb)
    clear hb
    have kr0 : w6.cell? ⟨w.heap.size, 0, none⟩ = some (Value.bool false) := (Lib.cell_of_heap Xr.out 0).trans rfl
    have fr0 : w6.frozen? ⟨w.heap.size, 0, none⟩ = false := Lib.frozen_of_heap Xr.out 0
    have kr1 : w6.cell? ⟨w.heap.size, 1, none⟩ = some (Value.slice none 0 0) := (Lib.cell_of_heap Xr.out 1).trans rfl
    have fr1 : w6.frozen? ⟨w.heap.size, 1, none⟩ = false := Lib.frozen_of_heap Xr.out 1
    have zr : w.heap.size < w6.heap.size := hlt Xr.out
    go_wp2_with fail
    have HPS := hide (powS60 _ zP K _ HVP.out.is (by omega) (by omega))
    refine HPS.out.mono ?_
    rintro e w7 ⟨vQ, q1, rfl, hvQ, hpl, hb⟩
    have yw7 := hb.size
    have hql := pow_len4 hpl hzl hKb
    obtain ⟨aQ, cQ, rfl, hoQ⟩ := hvQ
    have OQ := hide hoQ
    clear hoQ hpl HVP HPS
    clear kr0 fr0 kr1 fr1 zr
    replace Xr := hide (hbel Xr.out hb (by first | assumption | omega))
    replace HB := hide (bl_trans HB.out hb)
    replace HC := hide (HC.out.bel hb)
    clear hb
    have kr0 : w7.cell? ⟨w.heap.size, 0, none⟩ = some (Value.bool false) := (Lib.cell_of_heap Xr.out 0).trans rfl
    have fr0 : w7.frozen? ⟨w.heap.size, 0, none⟩ = false := Lib.frozen_of_heap Xr.out 0
    have kr1 : w7.cell? ⟨w.heap.size, 1, none⟩ = some (Value.slice none 0 0) := (Lib.cell_of_heap Xr.out 1).trans rfl
    have fr1 : w7.frozen? ⟨w.heap.size, 1, none⟩ = false := Lib.frozen_of_heap Xr.out 1
    have zr : w.heap.size < w7.heap.size := hlt Xr.out
    go_wp2_with fail
    have Xx : Hid ((w7.alloc (Obj.cells #[Value.bool (sgn q1), Value.slice aQ (lms q1).length cQ] 26)).heap[w7.heap.size]? = some (.cells #[Value.bool (sgn q1), Value.slice aQ (lms q1).length cQ] 26 (0, 0))) := hide (hnew _ _)
    have hbn := (bl_alloc (bl_refl w7) (Obj.cells #[Value.bool (sgn q1), Value.slice aQ (lms q1).length cQ] 26))
    have yw8 : w7.heap.size + 1 ≤ (w7.alloc (Obj.cells #[Value.bool (sgn q1), Value.slice aQ (lms q1).length cQ] 26)).heap.size := by simp only [World.size_alloc]; omega
    replace HC := hide (HC.out.bel hbn)
    generalize w7.alloc (Obj.cells #[Value.bool (sgn q1), Value.slice aQ (lms q1).length cQ] 26) = w8 at *
    clear kr0 fr0 kr1 fr1 zr
    replace Xr := hide (hbel Xr.out hbn (by first | assumption | omega))
    replace OQ := hide (OQ.out.below hbn)
    replace HB := hide (bl_trans HB.out hbn)
    clear hbn
    have kr0 : w8.cell? ⟨w.heap.size, 0, none⟩ = some (Value.bool false) := (Lib.cell_of_heap Xr.out 0).trans rfl
    have fr0 : w8.frozen? ⟨w.heap.size, 0, none⟩ = false := Lib.frozen_of_heap Xr.out 0
    have kr1 : w8.cell? ⟨w.heap.size, 1, none⟩ = some (Value.slice none 0 0) := (Lib.cell_of_heap Xr.out 1).trans rfl
    have fr1 : w8.frozen? ⟨w.heap.size, 1, none⟩ = false := Lib.frozen_of_heap Xr.out 1
    have zr : w.heap.size < w8.heap.size := hlt Xr.out
    have kx0 : w8.cell? ⟨w7.heap.size, 0, none⟩ = some (Value.bool (sgn q1)) := (Lib.cell_of_heap Xx.out 0).trans rfl
    have fx0 : w8.frozen? ⟨w7.heap.size, 0, none⟩ = false := Lib.frozen_of_heap Xx.out 0
    have kx1 : w8.cell? ⟨w7.heap.size, 1, none⟩ = some (Value.slice aQ (lms q1).length cQ) := (Lib.cell_of_heap Xx.out 1).trans rfl
    have fx1 : w8.frozen? ⟨w7.heap.size, 1, none⟩ = false := Lib.frozen_of_heap Xx.out 1
    have zx : w7.heap.size < w8.heap.size := hlt Xx.out
    have hzB := HC.out.hB
    have KP : Hid (∀ w', Chg (fun k => k = B ∨ k = w.heap.size) w8 w' → (w'.cell? ⟨w7.heap.size, 0, none⟩ = some (Value.bool (sgn q1)) ∧ w'.cell? ⟨w7.heap.size, 1, none⟩ = some (Value.slice aQ (lms q1).length cQ))) := hide (fun w' h => ⟨(Lib.cell_of_heap (h.heap Xx.out (by omega)) 0).trans rfl, (Lib.cell_of_heap (h.heap Xx.out (by omega)) 1).trans rfl⟩)
    have HPK := hide (new_ints w8.drew #[Value.int .i64 0, Value.int .i64 0, Value.int .i64 1, Value.int .i64 (-1)] 3 (fun z => -1 ≤ z ∧ z ≤ 1) (by
      intro v hv
      simp only [List.mem_cons, List.not_mem_nil, or_false] at hv
      rcases hv with rfl | rfl | rfl | rfl
      all_goals exact ⟨_, by omega, rfl⟩) 4 (by simp))
    have hzL : w8.heap.size < (w8.drew.alloc (Obj.cells #[Value.int .i64 0, Value.int .i64 0, Value.int .i64 1, Value.int .i64 (-1)] 3)).heap.size := by simp only [World.size_alloc, World.size_drew]; omega
    have HCL := hide ((HC.out.drewN 1).alloc (Obj.cells #[Value.int .i64 0, Value.int .i64 0, Value.int .i64 1, Value.int .i64 (-1)] 3))
    have XrL : Hid ((w8.drew.alloc (Obj.cells #[Value.int .i64 0, Value.int .i64 0, Value.int .i64 1, Value.int .i64 (-1)] 3)).heap[w.heap.size]? = some (.cells #[Value.bool false, Value.slice none 0 0] 26 (0, 0))) := hide (hnewer (show w8.drew.heap[w.heap.size]? = _ from Xr.out) _)
    have hcL : Chg (fun k => k = B ∨ k = w.heap.size) w8 (w8.drew.alloc (Obj.cells #[Value.int .i64 0, Value.int .i64 0, Value.int .i64 1, Value.int .i64 (-1)] 3)) := (Chg.refl _ _).drew.alloc _
    go_region_held3 (fun w' => w'.cell? ⟨w7.heap.size, 0, none⟩ = some (Value.bool (sgn q1)) ∧ w'.cell? ⟨w7.heap.size, 1, none⟩ = some (Value.slice aQ (lms q1).length cQ))
      (first
        | exact KP.out _ (Chg.refl _ _).drew
        | exact KP.out _ hcL
        | exact KP.out _ hcP
        | exact KP.out _ hcF
        | exact KP.out _ hcA
        | exact KP.out _ ((hcA.set (.inr rfl) _).set (.inr rfl) _))
      (first
        | (go_at_call 28; refine (pickIntD B a len cap _ HCL.out w8.heap.size 4 (fun z => -1 ≤ z ∧ z ≤ 1) hzL (by omega) (by omega) (by omega) HPK.out).mono ?_; rintro e wP ⟨q, hq, rfl, hcN, hoP⟩; have hcP : Chg (fun k => k = B ∨ k = w.heap.size) w8 wP := hcL.trans (hoP.chg.mono (fun k e => .inl e)); have hzP := hcP.size; have XrP := hide (hoP.chg.heap XrL.out (by omega)); obtain ⟨hqa, hqb⟩ := hq; clear hoP hcN)
        | (go_at_call 11; refine (fromS q wP (by omega) (by omega)).mono ?_; rintro e wF ⟨vF, rfl, ⟨aF, cF, rfl, hoF⟩, hbF⟩; have hcF : Chg (fun k => k = B ∨ k = w.heap.size) w8 wF := hcP.trans (Chg.below hbF); have XrF := hide (hbel XrP.out hbF (hlt XrP.out)); have hzF := hbF.size; have OF := hide hoF; have hlF := len_i64 q (by omega) (by omega); have OQF := hide (OQ.out.chg hcF (fun b h1 h2 => by omega)); clear hoF hbF)
        | (go_at_call 27; refine (addS (.agg #[.bool (sgn q1), .slice aQ (lms q1).length cQ]) (.agg #[.bool (sgn q), .slice aF (lms q).length cF]) q1 q wF ⟨aQ, cQ, rfl, OQF.out.seg⟩ ⟨aF, cF, rfl, OF.out.seg⟩ (by omega) (by omega)).mono ?_; rintro e wA ⟨vA, rfl, ⟨aA, cA, rfl, hoA⟩, hbA⟩; have hcA : Chg (fun k => k = B ∨ k = w.heap.size) w8 wA := hcF.trans (Chg.below hbA); have XrA := hide (hbel XrF.out hbA (hlt XrF.out)); have OA := hide hoA; have hzA := hbA.size; have q0 := (Lib.cell_of_heap XrA.out 0).trans (show _ = some (Value.bool false) from rfl); have q9 := (Lib.cell_of_heap XrA.out 1).trans (show _ = some (Value.slice none 0 0) from rfl); have g0 := Lib.frozen_of_heap XrA.out 0; have g9 := Lib.frozen_of_heap XrA.out 1; clear hoA hbA))
    all_goals go_wp2
    all_goals refine bodyPost_ret (v := .tuple #[.agg #[.bool (sgn (q1 + q)), .slice aA (lms (q1 + q)).length cA], .int .i64 (K : Int)]) (by simp [results, Try.results6, go_sem, *]) rfl ?_
    all_goals exact drOut _ aA cA _ (K : Int) rfl (by omega) ((OA.out.setCell (p := ⟨w.heap.size, 0, none⟩) (by dsimp only; omega) _).setCell (p := ⟨w.heap.size, 1, none⟩) (by dsimp only; omega) _).seg (Chg.keep HB.out ((hcA.set (.inr rfl) _).set (.inr rfl) _) (fun k e => by omega) HB.out.size)
  | false =>
    go_wp2_with fail
    have hzB0 := HC.out.hB
    refine (anyB B a len cap _ HC.out).mono ?_
    rintro e w9 ⟨n', aX, cX, xs, rfl, hlX, hoX, hcN, hoN⟩
    have yw9 := hoN.size
    clear kr0 fr0 kr1 fr1 zr
    have hc := hoN.chg
    replace Xr := hide (hc.heap Xr.out (by omega))
    replace HB := hide (Chg.keep HB.out hc (fun k e => by omega) HB.out.size)
    replace HC := hide hcN
    have OX := hide hoX
    clear hcN hoN hc hoX
    have kr0 : w9.cell? ⟨w.heap.size, 0, none⟩ = some (Value.bool false) := (Lib.cell_of_heap Xr.out 0).trans rfl
    have fr0 : w9.frozen? ⟨w.heap.size, 0, none⟩ = false := Lib.frozen_of_heap Xr.out 0
    have kr1 : w9.cell? ⟨w.heap.size, 1, none⟩ = some (Value.slice none 0 0) := (Lib.cell_of_heap Xr.out 1).trans rfl
    have fr1 : w9.frozen? ⟨w.heap.size, 1, none⟩ = false := Lib.frozen_of_heap Xr.out 1
    have zr : w.heap.size < w9.heap.size := hlt Xr.out
    go_wp2_with fail
    have Xx : Hid ((w9.alloc (Obj.cells #[Value.bool n', Value.slice aX xs.length cX] 26)).heap[w9.heap.size]? = some (.cells #[Value.bool n', Value.slice aX xs.length cX] 26 (0, 0))) := hide (hnew _ _)
    have hbn := (bl_alloc (bl_refl w9) (Obj.cells #[Value.bool n', Value.slice aX xs.length cX] 26))
    have yw10 : w9.heap.size + 1 ≤ (w9.alloc (Obj.cells #[Value.bool n', Value.slice aX xs.length cX] 26)).heap.size := by simp only [World.size_alloc]; omega
    replace HC := hide (HC.out.bel hbn)
    generalize w9.alloc (Obj.cells #[Value.bool n', Value.slice aX xs.length cX] 26) = w10 at *
    clear kr0 fr0 kr1 fr1 zr
    replace Xr := hide (hbel Xr.out hbn (by first | assumption | omega))
    replace OX := hide (OX.out.below hbn)
    replace HB := hide (bl_trans HB.out hbn)
    clear hbn
    have kr0 : w10.cell? ⟨w.heap.size, 0, none⟩ = some (Value.bool false) := (Lib.cell_of_heap Xr.out 0).trans rfl
    have fr0 : w10.frozen? ⟨w.heap.size, 0, none⟩ = false := Lib.frozen_of_heap Xr.out 0
    have kr1 : w10.cell? ⟨w.heap.size, 1, none⟩ = some (Value.slice none 0 0) := (Lib.cell_of_heap Xr.out 1).trans rfl
    have fr1 : w10.frozen? ⟨w.heap.size, 1, none⟩ = false := Lib.frozen_of_heap Xr.out 1
    have zr : w.heap.size < w10.heap.size := hlt Xr.out
    have kx0 : w10.cell? ⟨w9.heap.size, 0, none⟩ = some (Value.bool n') := (Lib.cell_of_heap Xx.out 0).trans rfl
    have fx0 : w10.frozen? ⟨w9.heap.size, 0, none⟩ = false := Lib.frozen_of_heap Xx.out 0
    have kx1 : w10.cell? ⟨w9.heap.size, 1, none⟩ = some (Value.slice aX xs.length cX) := (Lib.cell_of_heap Xx.out 1).trans rfl
    have fx1 : w10.frozen? ⟨w9.heap.size, 1, none⟩ = false := Lib.frozen_of_heap Xx.out 1
    have zx : w9.heap.size < w10.heap.size := hlt Xx.out
    have hzB := HC.out.hB
    have hLV : ∀ v ∈ (#[Value.int .i64 0, Value.int .i64 1, Value.int .i64 2, Value.int .i64 3, Value.int .i64 5, Value.int .i64 64, Value.int .i64 65, Value.int .i64 (-1)] : Array Value).toList, ∃ z, (fun z => -1 ≤ z ∧ z ≤ 65) z ∧ v = .int .i64 z := by
      intro v hv
      simp only [List.mem_cons, List.not_mem_nil, or_false] at hv
      rcases hv with rfl | rfl | rfl | rfl | rfl | rfl | rfl | rfl
      all_goals exact ⟨_, by omega, rfl⟩
    have HPK := hide (new_ints w10.drew #[Value.int .i64 0, Value.int .i64 1, Value.int .i64 2, Value.int .i64 3, Value.int .i64 5, Value.int .i64 64, Value.int .i64 65, Value.int .i64 (-1)] 3 (fun z => -1 ≤ z ∧ z ≤ 65) hLV 8 (by simp))
    have hzL : w10.heap.size < (w10.drew.alloc (Obj.cells #[Value.int .i64 0, Value.int .i64 1, Value.int .i64 2, Value.int .i64 3, Value.int .i64 5, Value.int .i64 64, Value.int .i64 65, Value.int .i64 (-1)] 3)).heap.size := by simp only [World.size_alloc, World.size_drew]; omega
    have HC0 := hide (HC.out.drewN 1)
    have HCL := hide ((HC.out.drewN 1).alloc (Obj.cells #[Value.int .i64 0, Value.int .i64 1, Value.int .i64 2, Value.int .i64 3, Value.int .i64 5, Value.int .i64 64, Value.int .i64 65, Value.int .i64 (-1)] 3))
    have Xr0 : Hid (w10.drew.heap[w.heap.size]? = some (.cells #[Value.bool false, Value.slice none 0 0] 26 (0, 0))) := hide Xr.out
    have XrL : Hid ((w10.drew.alloc (Obj.cells #[Value.int .i64 0, Value.int .i64 1, Value.int .i64 2, Value.int .i64 3, Value.int .i64 5, Value.int .i64 64, Value.int .i64 65, Value.int .i64 (-1)] 3)).heap[w.heap.size]? = some (.cells #[Value.bool false, Value.slice none 0 0] 26 (0, 0))) := hide (hnewer Xr0.out _)
    have hc0 : Chg (fun k => k = B ∨ k = w.heap.size) w10 w10.drew := (Chg.refl _ _).drew
    have hcL : Chg (fun k => k = B ∨ k = w.heap.size) w10 (w10.drew.alloc (Obj.cells #[Value.int .i64 0, Value.int .i64 1, Value.int .i64 2, Value.int .i64 3, Value.int .i64 5, Value.int .i64 64, Value.int .i64 65, Value.int .i64 (-1)] 3)) := hc0.alloc _
    have OX0 := hide (OX.out.chg hc0 (fun b h1 h2 => by omega))
    have OXL := hide (OX.out.chg hcL (fun b h1 h2 => by omega))
    clear HC
    skip
    cases n' with
    | false =>
      have KP : Hid (∀ w', Chg (fun k => k = B ∨ k = w.heap.size) w10 w' → (w'.cell? ⟨w9.heap.size, 0, none⟩ = some (Value.bool false) ∧ w'.cell? ⟨w9.heap.size, 1, none⟩ = some (Value.slice aX xs.length cX))) := hide (fun w' h => ⟨(Lib.cell_of_heap (h.heap Xx.out (by omega)) 0).trans rfl, (Lib.cell_of_heap (h.heap Xx.out (by omega)) 1).trans rfl⟩)
      clear kr0 fr0 kr1 fr1 kx0 fx0 kx1 fx1
      have hzD : w10.drew.heap.size = w10.heap.size := rfl
      refine wp_region_held_drew (S := fun w' => w'.cell? ⟨w9.heap.size, 0, none⟩ = some (Value.bool false) ∧ w'.cell? ⟨w9.heap.size, 1, none⟩ = some (Value.slice aX xs.length cX)) (by kernel_rfl) (KP.out _ hc0) (fun hHeld => ?_)
      refine wpAnyH_take (i := 0) (v := ?_) rfl (by kernel_rfl) (by kernel_rfl) (by kernel_rfl) (fun _ _ _ h => h) (Or.inl ⟨by rfl, ?_⟩) (by assumption) ?_
      rotate_left 1
      · intro wS hSw
        (try dsimp only at hSw)
        go_simp
        all_goals with_reducible rfl
      try simp only [Act.put, List.setIfInBounds_toArray, List.set_cons_zero, List.set_cons_succ]
      refine wpAnyH_take (i := 1) (v := ?_) rfl (by kernel_rfl) (by kernel_rfl) (by kernel_rfl) (fun _ _ _ h => h) (Or.inl ⟨by rfl, ?_⟩) (by assumption) ?_
      rotate_left 1
      · intro wS hSw
        (try dsimp only at hSw)
        go_simp
        all_goals with_reducible rfl
      try simp only [Act.put, List.setIfInBounds_toArray, List.set_cons_zero, List.set_cons_succ]
      refine wpAnyH_take (i := 2) (v := ?_) rfl (by kernel_rfl) (by kernel_rfl) (by kernel_rfl) (fun _ _ _ h => h) (Or.inl ⟨by rfl, ?_⟩) (by assumption) ?_
      rotate_left 1
      · intro wS hSw
        (try dsimp only at hSw)
        go_simp
        all_goals with_reducible rfl
      try simp only [Act.put, List.setIfInBounds_toArray, List.set_cons_zero, List.set_cons_succ]
      refine wpAnyH_take (i := 3) (v := undef) rfl (by kernel_rfl) (by kernel_rfl) (by kernel_rfl) (fun _ _ _ h => h) (Or.inr ⟨by rfl, rfl⟩) (by assumption) ?_
      try simp only [Act.put, List.setIfInBounds_toArray, List.set_cons_zero, List.set_cons_succ]
      refine wpAnyH_take (i := 4) (v := undef) rfl (by kernel_rfl) (by kernel_rfl) (by kernel_rfl) (fun _ _ _ h => h) (Or.inr ⟨by rfl, rfl⟩) (by assumption) ?_
      try simp only [Act.put, List.setIfInBounds_toArray, List.set_cons_zero, List.set_cons_succ]
      refine wpAnyH_take (i := 5) (v := ?_) rfl (by kernel_rfl) (by kernel_rfl) (by kernel_rfl) (fun _ _ _ h => h) (Or.inl ⟨by rfl, ?_⟩) (by assumption) ?_
      rotate_left 1
      · intro wS hSw
        (try dsimp only at hSw)
        go_simp
        all_goals with_reducible rfl
      try simp only [Act.put, List.setIfInBounds_toArray, List.set_cons_zero, List.set_cons_succ]
      refine wpAnyH_take (i := 6) (v := ?_) rfl (by kernel_rfl) (by kernel_rfl) (by kernel_rfl) (fun _ _ _ h => h) (Or.inl ⟨by rfl, ?_⟩) (by assumption) ?_
      rotate_left 1
      · intro wS hSw
        (try dsimp only at hSw)
        go_simp
        all_goals with_reducible rfl
      try simp only [Act.put, List.setIfInBounds_toArray, List.set_cons_zero, List.set_cons_succ]
      refine wpAnyH_take (i := 7) (v := ?_) rfl (by kernel_rfl) (by kernel_rfl) (by kernel_rfl) (fun _ _ _ h => h) (Or.inl ⟨by rfl, ?_⟩) (by assumption) ?_
      rotate_left 1
      · intro wS hSw
        (try dsimp only at hSw)
        go_simp
        all_goals with_reducible rfl
      try simp only [Act.put, List.setIfInBounds_toArray, List.set_cons_zero, List.set_cons_succ]
      refine wpAnyH_take (i := 9) (v := ?_) rfl (by kernel_rfl) (by kernel_rfl) (by kernel_rfl) (fun _ _ _ h => h) (Or.inl ⟨by rfl, ?_⟩) (by assumption) ?_
      rotate_left 1
      · intro wS hSw
        (try dsimp only at hSw)
        go_simp
        all_goals with_reducible rfl
      try simp only [Act.put, List.setIfInBounds_toArray, List.set_cons_zero, List.set_cons_succ]
      refine wpAnyH_ready (rs := [8, 10]) (by kernel_rfl) (by simp) ?_
      refine AllReadyH.cons rfl (fun K hK => ?_) ?_
      · go_simp
        go_at_call 25
        refine (makeS false aX _ cX xs w10.drew OX0.out.seg (by omega)).mono ?_
        rintro e wM ⟨vM, rfl, hvM, hbM⟩
        have hcM : Chg (fun k => k = B ∨ k = w.heap.size) w10 wM := hc0.trans (Chg.below hbM)
        have hzM := hcM.size
        have HCM := hide (HC0.out.bel hbM)
        have XrM := hide (hbel Xr0.out hbM (hlt Xr0.out))
        obtain ⟨aM, cM, rfl, hoM⟩ := hvM
        have OM := hide hoM
        clear hbM hoM
        refine hK.out _ _ ?_ (fun hHeld => ?_)
        · (try dsimp only)
          first | exact KP.out _ hc0 | exact KP.out _ hcL | exact KP.out _ hcO | exact KP.out _ (hcO.alloc _) | exact KP.out _ hcM | exact KP.out _ (hcM.alloc _) | exact KP.out _ hcQ | exact KP.out _ ((hcQ.set (.inr rfl) _).set (.inr rfl) _)
        clear hK K
        try simp only [Act.put, List.setIfInBounds_toArray, List.set_cons_zero, List.set_cons_succ]
        refine wpAnyH_ready (rs := [10]) (by kernel_rfl) (by simp) ?_
        refine AllReadyH.cons rfl (fun K hK => ?_) ?_
        · go_simp
          refine hK.out _ _ ?_ (fun hHeld => ?_)
          · (try dsimp only)
            first | exact KP.out _ hc0 | exact KP.out _ hcL | exact KP.out _ hcO | exact KP.out _ (hcO.alloc _) | exact KP.out _ hcM | exact KP.out _ (hcM.alloc _) | exact KP.out _ hcQ | exact KP.out _ ((hcQ.set (.inr rfl) _).set (.inr rfl) _)
          clear hK K
          try simp only [Act.put, List.setIfInBounds_toArray, List.set_cons_zero, List.set_cons_succ]
          refine wpAnyH_ready (rs := [11]) (by kernel_rfl) (by simp) ?_
          refine AllReadyH.cons rfl (fun K hK => ?_) ?_
          · go_simp
            go_at_call 28
            refine (pickIntD B a len cap (wM.alloc (Obj.cells #[Value.int .i64 0, Value.int .i64 1, Value.int .i64 2, Value.int .i64 3, Value.int .i64 5, Value.int .i64 64, Value.int .i64 65, Value.int .i64 (-1)] 3)) (HCM.out.alloc (Obj.cells #[Value.int .i64 0, Value.int .i64 1, Value.int .i64 2, Value.int .i64 3, Value.int .i64 5, Value.int .i64 64, Value.int .i64 65, Value.int .i64 (-1)] 3)) wM.heap.size 8 (fun z => -1 ≤ z ∧ z ≤ 65) (show wM.heap.size < (wM.alloc (Obj.cells #[Value.int .i64 0, Value.int .i64 1, Value.int .i64 2, Value.int .i64 3, Value.int .i64 5, Value.int .i64 64, Value.int .i64 65, Value.int .i64 (-1)] 3)).heap.size by simp) (by omega) (by omega) (by omega) (new_ints wM #[Value.int .i64 0, Value.int .i64 1, Value.int .i64 2, Value.int .i64 3, Value.int .i64 5, Value.int .i64 64, Value.int .i64 65, Value.int .i64 (-1)] 3 (fun z => -1 ≤ z ∧ z ≤ 65) hLV 8 (by simp))).mono ?_
            rintro e wQ ⟨q, hq, rfl, hcN, hoQ⟩
            have hcMQ : Chg (fun k => k = B) wM wQ := ((Chg.refl _ _).alloc _).trans hoQ.chg
            have hcQ : Chg (fun k => k = B ∨ k = w.heap.size) w10 wQ := (hcM.alloc (Obj.cells #[Value.int .i64 0, Value.int .i64 1, Value.int .i64 2, Value.int .i64 3, Value.int .i64 5, Value.int .i64 64, Value.int .i64 65, Value.int .i64 (-1)] 3)).trans (hoQ.chg.mono (fun k e => .inl e))
            have XrQ := hide (hoQ.chg.heap (hnewer XrM.out (Obj.cells #[Value.int .i64 0, Value.int .i64 1, Value.int .i64 2, Value.int .i64 3, Value.int .i64 5, Value.int .i64 64, Value.int .i64 65, Value.int .i64 (-1)] 3)) (by omega))
            have OQ := hide (OM.out.chg hcMQ (fun b h1 h2 => by omega))
            obtain ⟨hqa, hqb⟩ := hq
            have q0 := (Lib.cell_of_heap XrQ.out 0).trans (show _ = some (Value.bool false) from rfl)
            have q9 := (Lib.cell_of_heap XrQ.out 1).trans (show _ = some (Value.slice none 0 0) from rfl)
            have g0 := Lib.frozen_of_heap XrQ.out 0
            have g9 := Lib.frozen_of_heap XrQ.out 1
            clear hcN hoQ
            refine hK.out _ _ ?_ (fun hHeld => ?_)
            · (try dsimp only)
              first | exact KP.out _ hc0 | exact KP.out _ hcL | exact KP.out _ hcO | exact KP.out _ (hcO.alloc _) | exact KP.out _ hcM | exact KP.out _ (hcM.alloc _) | exact KP.out _ hcQ | exact KP.out _ ((hcQ.set (.inr rfl) _).set (.inr rfl) _)
            clear hK K
            try simp only [Act.put, List.setIfInBounds_toArray, List.set_cons_zero, List.set_cons_succ]
            refine wpAnyH_ready (rs := [12]) (by kernel_rfl) (by simp) ?_
            refine AllReadyH.cons rfl (fun K hK => ?_) ?_
            · go_simp
              refine hK.out _ _ ?_ (fun hHeld => ?_)
              · (try dsimp only)
                first | exact KP.out _ hc0 | exact KP.out _ hcL | exact KP.out _ hcO | exact KP.out _ (hcO.alloc _) | exact KP.out _ hcM | exact KP.out _ (hcM.alloc _) | exact KP.out _ hcQ | exact KP.out _ ((hcQ.set (.inr rfl) _).set (.inr rfl) _)
              clear hK K
              try simp only [Act.put, List.setIfInBounds_toArray, List.set_cons_zero, List.set_cons_succ]
              refine wpAnyH_take (i := 13) (v := ?_) rfl (by kernel_rfl) (by kernel_rfl) (by kernel_rfl) (fun _ _ _ h => h) (Or.inl ⟨by rfl, ?_⟩) (by assumption) ?_
              rotate_left 1
              · intro wS hSw
                (try dsimp only at hSw)
                go_simp
                all_goals with_reducible rfl
              try simp only [Act.put, List.setIfInBounds_toArray, List.set_cons_zero, List.set_cons_succ]
              refine wpAnyH_done (by kernel_rfl) ?_ _
              all_goals go_wp2
              refine bodyPost_ret (v := .tuple #[.agg #[.bool (sgn (mk false (Num.nat xs))), .slice aM (lms (mk false (Num.nat xs))).length cM], .int .i64 q]) (by simp [results, Try.results6, go_sem, *]) rfl ?_
              exact drOut _ aM cM _ q rfl (by omega) ((OQ.out.setCell (p := ⟨w.heap.size, 0, none⟩) (by dsimp only; omega) _).setCell (p := ⟨w.heap.size, 1, none⟩) (by dsimp only; omega) _).seg (Chg.keep HB.out ((hcQ.set (.inr rfl) _).set (.inr rfl) _) (fun k e => by omega) HB.out.size)
            exact AllReadyH.nil
          exact AllReadyH.nil
        exact AllReadyH.nil
      refine AllReadyH.cons rfl (fun K hK => ?_) ?_
      · go_simp
        refine hK.out _ _ ?_ (fun hHeld => ?_)
        · (try dsimp only)
          first | exact KP.out _ hc0 | exact KP.out _ hcL | exact KP.out _ hcO | exact KP.out _ (hcO.alloc _) | exact KP.out _ hcM | exact KP.out _ (hcM.alloc _) | exact KP.out _ hcQ | exact KP.out _ ((hcQ.set (.inr rfl) _).set (.inr rfl) _)
        clear hK K
        try simp only [Act.put, List.setIfInBounds_toArray, List.set_cons_zero, List.set_cons_succ]
        refine wpAnyH_ready (rs := [8]) (by kernel_rfl) (by simp) ?_
        refine AllReadyH.cons rfl (fun K hK => ?_) ?_
        · go_simp
          go_at_call 25
          refine (makeS false aX _ cX xs (w10.drew.alloc (Obj.cells #[Value.int .i64 0, Value.int .i64 1, Value.int .i64 2, Value.int .i64 3, Value.int .i64 5, Value.int .i64 64, Value.int .i64 65, Value.int .i64 (-1)] 3)) OXL.out.seg (by omega)).mono ?_
          rintro e wM ⟨vM, rfl, hvM, hbM⟩
          have hcM : Chg (fun k => k = B ∨ k = w.heap.size) w10 wM := hcL.trans (Chg.below hbM)
          have hzM := hcM.size
          have HCM := hide (HCL.out.bel hbM)
          have XrM := hide (hbel XrL.out hbM (hlt XrL.out))
          obtain ⟨aM, cM, rfl, hoM⟩ := hvM
          have OM := hide hoM
          have HLc := hide (ints_bel HPK.out hbM hzL)
          have hzHLc : w10.heap.size < wM.heap.size := Nat.lt_of_lt_of_le hzL hbM.size
          clear hbM hoM
          refine hK.out _ _ ?_ (fun hHeld => ?_)
          · (try dsimp only)
            first | exact KP.out _ hc0 | exact KP.out _ hcL | exact KP.out _ hcO | exact KP.out _ (hcO.alloc _) | exact KP.out _ hcM | exact KP.out _ (hcM.alloc _) | exact KP.out _ hcQ | exact KP.out _ ((hcQ.set (.inr rfl) _).set (.inr rfl) _)
          clear hK K
          try simp only [Act.put, List.setIfInBounds_toArray, List.set_cons_zero, List.set_cons_succ]
          refine wpAnyH_ready (rs := [11]) (by kernel_rfl) (by simp) ?_
          refine AllReadyH.cons rfl (fun K hK => ?_) ?_
          · go_simp
            go_at_call 28
            refine (pickIntD B a len cap wM HCM.out w10.heap.size 8 (fun z => -1 ≤ z ∧ z ≤ 65) hzHLc (by omega) (by omega) (by omega) HLc.out).mono ?_
            rintro e wQ ⟨q, hq, rfl, hcN, hoQ⟩
            have hcMQ : Chg (fun k => k = B) wM wQ := hoQ.chg
            have hcQ : Chg (fun k => k = B ∨ k = w.heap.size) w10 wQ := hcM.trans (hoQ.chg.mono (fun k e => .inl e))
            have XrQ := hide (hoQ.chg.heap XrM.out (by omega))
            have OQ := hide (OM.out.chg hcMQ (fun b h1 h2 => by omega))
            obtain ⟨hqa, hqb⟩ := hq
            have q0 := (Lib.cell_of_heap XrQ.out 0).trans (show _ = some (Value.bool false) from rfl)
            have q9 := (Lib.cell_of_heap XrQ.out 1).trans (show _ = some (Value.slice none 0 0) from rfl)
            have g0 := Lib.frozen_of_heap XrQ.out 0
            have g9 := Lib.frozen_of_heap XrQ.out 1
            clear hcN hoQ
            refine hK.out _ _ ?_ (fun hHeld => ?_)
            · (try dsimp only)
              first | exact KP.out _ hc0 | exact KP.out _ hcL | exact KP.out _ hcO | exact KP.out _ (hcO.alloc _) | exact KP.out _ hcM | exact KP.out _ (hcM.alloc _) | exact KP.out _ hcQ | exact KP.out _ ((hcQ.set (.inr rfl) _).set (.inr rfl) _)
            clear hK K
            try simp only [Act.put, List.setIfInBounds_toArray, List.set_cons_zero, List.set_cons_succ]
            refine wpAnyH_ready (rs := [12]) (by kernel_rfl) (by simp) ?_
            refine AllReadyH.cons rfl (fun K hK => ?_) ?_
            · go_simp
              refine hK.out _ _ ?_ (fun hHeld => ?_)
              · (try dsimp only)
                first | exact KP.out _ hc0 | exact KP.out _ hcL | exact KP.out _ hcO | exact KP.out _ (hcO.alloc _) | exact KP.out _ hcM | exact KP.out _ (hcM.alloc _) | exact KP.out _ hcQ | exact KP.out _ ((hcQ.set (.inr rfl) _).set (.inr rfl) _)
              clear hK K
              try simp only [Act.put, List.setIfInBounds_toArray, List.set_cons_zero, List.set_cons_succ]
              refine wpAnyH_take (i := 13) (v := ?_) rfl (by kernel_rfl) (by kernel_rfl) (by kernel_rfl) (fun _ _ _ h => h) (Or.inl ⟨by rfl, ?_⟩) (by assumption) ?_
              rotate_left 1
              · intro wS hSw
                (try dsimp only at hSw)
                go_simp
                all_goals with_reducible rfl
              try simp only [Act.put, List.setIfInBounds_toArray, List.set_cons_zero, List.set_cons_succ]
              refine wpAnyH_done (by kernel_rfl) ?_ _
              all_goals go_wp2
              refine bodyPost_ret (v := .tuple #[.agg #[.bool (sgn (mk false (Num.nat xs))), .slice aM (lms (mk false (Num.nat xs))).length cM], .int .i64 q]) (by simp [results, Try.results6, go_sem, *]) rfl ?_
              exact drOut _ aM cM _ q rfl (by omega) ((OQ.out.setCell (p := ⟨w.heap.size, 0, none⟩) (by dsimp only; omega) _).setCell (p := ⟨w.heap.size, 1, none⟩) (by dsimp only; omega) _).seg (Chg.keep HB.out ((hcQ.set (.inr rfl) _).set (.inr rfl) _) (fun k e => by omega) HB.out.size)
            exact AllReadyH.nil
          exact AllReadyH.nil
        exact AllReadyH.nil
      exact AllReadyH.nil
    | true =>
      have KP : Hid (∀ w', Chg (fun k => k = B ∨ k = w.heap.size) w10 w' → (w'.cell? ⟨w9.heap.size, 0, none⟩ = some (Value.bool true) ∧ w'.cell? ⟨w9.heap.size, 1, none⟩ = some (Value.slice aX xs.length cX))) := hide (fun w' h => ⟨(Lib.cell_of_heap (h.heap Xx.out (by omega)) 0).trans rfl, (Lib.cell_of_heap (h.heap Xx.out (by omega)) 1).trans rfl⟩)
      clear kr0 fr0 kr1 fr1 kx0 fx0 kx1 fx1
      have hzD : w10.drew.heap.size = w10.heap.size := rfl
      refine wp_region_held_drew (S := fun w' => w'.cell? ⟨w9.heap.size, 0, none⟩ = some (Value.bool true) ∧ w'.cell? ⟨w9.heap.size, 1, none⟩ = some (Value.slice aX xs.length cX)) (by kernel_rfl) (KP.out _ hc0) (fun hHeld => ?_)
      refine wpAnyH_take (i := 0) (v := ?_) rfl (by kernel_rfl) (by kernel_rfl) (by kernel_rfl) (fun _ _ _ h => h) (Or.inl ⟨by rfl, ?_⟩) (by assumption) ?_
      rotate_left 1
      · intro wS hSw
        (try dsimp only at hSw)
        go_simp
        all_goals with_reducible rfl
      try simp only [Act.put, List.setIfInBounds_toArray, List.set_cons_zero, List.set_cons_succ]
      refine wpAnyH_take (i := 1) (v := ?_) rfl (by kernel_rfl) (by kernel_rfl) (by kernel_rfl) (fun _ _ _ h => h) (Or.inl ⟨by rfl, ?_⟩) (by assumption) ?_
      rotate_left 1
      · intro wS hSw
        (try dsimp only at hSw)
        go_simp
        all_goals with_reducible rfl
      try simp only [Act.put, List.setIfInBounds_toArray, List.set_cons_zero, List.set_cons_succ]
      refine wpAnyH_take (i := 2) (v := ?_) rfl (by kernel_rfl) (by kernel_rfl) (by kernel_rfl) (fun _ _ _ h => h) (Or.inl ⟨by rfl, ?_⟩) (by assumption) ?_
      rotate_left 1
      · intro wS hSw
        (try dsimp only at hSw)
        go_simp
        all_goals with_reducible rfl
      try simp only [Act.put, List.setIfInBounds_toArray, List.set_cons_zero, List.set_cons_succ]
      refine wpAnyH_take (i := 3) (v := ?_) rfl (by kernel_rfl) (by kernel_rfl) (by kernel_rfl) (fun _ _ _ h => h) (Or.inl ⟨by rfl, ?_⟩) (by assumption) ?_
      rotate_left 1
      · intro wS hSw
        (try dsimp only at hSw)
        go_simp
        all_goals with_reducible rfl
      try simp only [Act.put, List.setIfInBounds_toArray, List.set_cons_zero, List.set_cons_succ]
      refine wpAnyH_take (i := 6) (v := ?_) rfl (by kernel_rfl) (by kernel_rfl) (by kernel_rfl) (fun _ _ _ h => h) (Or.inl ⟨by rfl, ?_⟩) (by assumption) ?_
      rotate_left 1
      · intro wS hSw
        (try dsimp only at hSw)
        go_simp
        all_goals with_reducible rfl
      try simp only [Act.put, List.setIfInBounds_toArray, List.set_cons_zero, List.set_cons_succ]
      refine wpAnyH_take (i := 7) (v := ?_) rfl (by kernel_rfl) (by kernel_rfl) (by kernel_rfl) (fun _ _ _ h => h) (Or.inl ⟨by rfl, ?_⟩) (by assumption) ?_
      rotate_left 1
      · intro wS hSw
        (try dsimp only at hSw)
        go_simp
        all_goals with_reducible rfl
      try simp only [Act.put, List.setIfInBounds_toArray, List.set_cons_zero, List.set_cons_succ]
      refine wpAnyH_take (i := 9) (v := ?_) rfl (by kernel_rfl) (by kernel_rfl) (by kernel_rfl) (fun _ _ _ h => h) (Or.inl ⟨by rfl, ?_⟩) (by assumption) ?_
      rotate_left 1
      · intro wS hSw
        (try dsimp only at hSw)
        go_simp
        all_goals with_reducible rfl
      try simp only [Act.put, List.setIfInBounds_toArray, List.set_cons_zero, List.set_cons_succ]
      refine wpAnyH_ready (rs := [4, 10]) (by kernel_rfl) (by simp) ?_
      refine AllReadyH.cons rfl (fun K hK => ?_) ?_
      · go_simp
        go_at_call 23
        refine (onceD B a len cap w10.drew HC0.out 5 (by omega)).mono ?_
        rintro e wO ⟨bt2, rfl, hcN, hoO⟩
        have hcO : Chg (fun k => k = B ∨ k = w.heap.size) w10 wO := hc0.trans (hoO.chg.mono (fun k e => .inl e))
        have hzO := hcO.size
        have HCO := hide hcN
        have XrO := hide (hoO.chg.heap Xr0.out (by omega))
        have OXO := hide (OX.out.chg hcO (fun b h1 h2 => by omega))
        clear hcN hoO
        refine hK.out _ _ ?_ (fun hHeld => ?_)
        · (try dsimp only)
          first | exact KP.out _ hc0 | exact KP.out _ hcL | exact KP.out _ hcO | exact KP.out _ (hcO.alloc _) | exact KP.out _ hcM | exact KP.out _ (hcM.alloc _) | exact KP.out _ hcQ | exact KP.out _ ((hcQ.set (.inr rfl) _).set (.inr rfl) _)
        clear hK K
        try simp only [Act.put, List.setIfInBounds_toArray, List.set_cons_zero, List.set_cons_succ]
        refine wpAnyH_take (i := 5) (v := ?_) rfl (by kernel_rfl) (by kernel_rfl) (by kernel_rfl) (fun _ _ _ h => h) (Or.inl ⟨by rfl, ?_⟩) (by assumption) ?_
        rotate_left 1
        · intro wS hSw
          (try dsimp only at hSw)
          go_simp
          all_goals with_reducible rfl
        try simp only [Act.put, List.setIfInBounds_toArray, List.set_cons_zero, List.set_cons_succ]
        refine wpAnyH_ready (rs := [8, 10]) (by kernel_rfl) (by simp) ?_
        refine AllReadyH.cons rfl (fun K hK => ?_) ?_
        · go_simp
          go_at_call 25
          refine (makeS bt2 aX _ cX xs wO OXO.out.seg (by omega)).mono ?_
          rintro e wM ⟨vM, rfl, hvM, hbM⟩
          have hcM : Chg (fun k => k = B ∨ k = w.heap.size) w10 wM := hcO.trans (Chg.below hbM)
          have hzM := hcM.size
          have HCM := hide (HCO.out.bel hbM)
          have XrM := hide (hbel XrO.out hbM (hlt XrO.out))
          obtain ⟨aM, cM, rfl, hoM⟩ := hvM
          have OM := hide hoM
          clear hbM hoM
          refine hK.out _ _ ?_ (fun hHeld => ?_)
          · (try dsimp only)
            first | exact KP.out _ hc0 | exact KP.out _ hcL | exact KP.out _ hcO | exact KP.out _ (hcO.alloc _) | exact KP.out _ hcM | exact KP.out _ (hcM.alloc _) | exact KP.out _ hcQ | exact KP.out _ ((hcQ.set (.inr rfl) _).set (.inr rfl) _)
          clear hK K
          try simp only [Act.put, List.setIfInBounds_toArray, List.set_cons_zero, List.set_cons_succ]
          refine wpAnyH_ready (rs := [10]) (by kernel_rfl) (by simp) ?_
          refine AllReadyH.cons rfl (fun K hK => ?_) ?_
          · go_simp
            refine hK.out _ _ ?_ (fun hHeld => ?_)
            · (try dsimp only)
              first | exact KP.out _ hc0 | exact KP.out _ hcL | exact KP.out _ hcO | exact KP.out _ (hcO.alloc _) | exact KP.out _ hcM | exact KP.out _ (hcM.alloc _) | exact KP.out _ hcQ | exact KP.out _ ((hcQ.set (.inr rfl) _).set (.inr rfl) _)
            clear hK K
            try simp only [Act.put, List.setIfInBounds_toArray, List.set_cons_zero, List.set_cons_succ]
            refine wpAnyH_ready (rs := [11]) (by kernel_rfl) (by simp) ?_
            refine AllReadyH.cons rfl (fun K hK => ?_) ?_
            · go_simp
              go_at_call 28
              refine (pickIntD B a len cap (wM.alloc (Obj.cells #[Value.int .i64 0, Value.int .i64 1, Value.int .i64 2, Value.int .i64 3, Value.int .i64 5, Value.int .i64 64, Value.int .i64 65, Value.int .i64 (-1)] 3)) (HCM.out.alloc (Obj.cells #[Value.int .i64 0, Value.int .i64 1, Value.int .i64 2, Value.int .i64 3, Value.int .i64 5, Value.int .i64 64, Value.int .i64 65, Value.int .i64 (-1)] 3)) wM.heap.size 8 (fun z => -1 ≤ z ∧ z ≤ 65) (show wM.heap.size < (wM.alloc (Obj.cells #[Value.int .i64 0, Value.int .i64 1, Value.int .i64 2, Value.int .i64 3, Value.int .i64 5, Value.int .i64 64, Value.int .i64 65, Value.int .i64 (-1)] 3)).heap.size by simp) (by omega) (by omega) (by omega) (new_ints wM #[Value.int .i64 0, Value.int .i64 1, Value.int .i64 2, Value.int .i64 3, Value.int .i64 5, Value.int .i64 64, Value.int .i64 65, Value.int .i64 (-1)] 3 (fun z => -1 ≤ z ∧ z ≤ 65) hLV 8 (by simp))).mono ?_
              rintro e wQ ⟨q, hq, rfl, hcN, hoQ⟩
              have hcMQ : Chg (fun k => k = B) wM wQ := ((Chg.refl _ _).alloc _).trans hoQ.chg
              have hcQ : Chg (fun k => k = B ∨ k = w.heap.size) w10 wQ := (hcM.alloc (Obj.cells #[Value.int .i64 0, Value.int .i64 1, Value.int .i64 2, Value.int .i64 3, Value.int .i64 5, Value.int .i64 64, Value.int .i64 65, Value.int .i64 (-1)] 3)).trans (hoQ.chg.mono (fun k e => .inl e))
              have XrQ := hide (hoQ.chg.heap (hnewer XrM.out (Obj.cells #[Value.int .i64 0, Value.int .i64 1, Value.int .i64 2, Value.int .i64 3, Value.int .i64 5, Value.int .i64 64, Value.int .i64 65, Value.int .i64 (-1)] 3)) (by omega))
              have OQ := hide (OM.out.chg hcMQ (fun b h1 h2 => by omega))
              obtain ⟨hqa, hqb⟩ := hq
              have q0 := (Lib.cell_of_heap XrQ.out 0).trans (show _ = some (Value.bool false) from rfl)
              have q9 := (Lib.cell_of_heap XrQ.out 1).trans (show _ = some (Value.slice none 0 0) from rfl)
              have g0 := Lib.frozen_of_heap XrQ.out 0
              have g9 := Lib.frozen_of_heap XrQ.out 1
              clear hcN hoQ
              refine hK.out _ _ ?_ (fun hHeld => ?_)
              · (try dsimp only)
                first | exact KP.out _ hc0 | exact KP.out _ hcL | exact KP.out _ hcO | exact KP.out _ (hcO.alloc _) | exact KP.out _ hcM | exact KP.out _ (hcM.alloc _) | exact KP.out _ hcQ | exact KP.out _ ((hcQ.set (.inr rfl) _).set (.inr rfl) _)
              clear hK K
              try simp only [Act.put, List.setIfInBounds_toArray, List.set_cons_zero, List.set_cons_succ]
              refine wpAnyH_ready (rs := [12]) (by kernel_rfl) (by simp) ?_
              refine AllReadyH.cons rfl (fun K hK => ?_) ?_
              · go_simp
                refine hK.out _ _ ?_ (fun hHeld => ?_)
                · (try dsimp only)
                  first | exact KP.out _ hc0 | exact KP.out _ hcL | exact KP.out _ hcO | exact KP.out _ (hcO.alloc _) | exact KP.out _ hcM | exact KP.out _ (hcM.alloc _) | exact KP.out _ hcQ | exact KP.out _ ((hcQ.set (.inr rfl) _).set (.inr rfl) _)
                clear hK K
                try simp only [Act.put, List.setIfInBounds_toArray, List.set_cons_zero, List.set_cons_succ]
                refine wpAnyH_take (i := 13) (v := ?_) rfl (by kernel_rfl) (by kernel_rfl) (by kernel_rfl) (fun _ _ _ h => h) (Or.inl ⟨by rfl, ?_⟩) (by assumption) ?_
                rotate_left 1
                · intro wS hSw
                  (try dsimp only at hSw)
                  go_simp
                  all_goals with_reducible rfl
                try simp only [Act.put, List.setIfInBounds_toArray, List.set_cons_zero, List.set_cons_succ]
                refine wpAnyH_done (by kernel_rfl) ?_ _
                all_goals go_wp2
                refine bodyPost_ret (v := .tuple #[.agg #[.bool (sgn (mk bt2 (Num.nat xs))), .slice aM (lms (mk bt2 (Num.nat xs))).length cM], .int .i64 q]) (by simp [results, Try.results6, go_sem, *]) rfl ?_
                exact drOut _ aM cM _ q rfl (by omega) ((OQ.out.setCell (p := ⟨w.heap.size, 0, none⟩) (by dsimp only; omega) _).setCell (p := ⟨w.heap.size, 1, none⟩) (by dsimp only; omega) _).seg (Chg.keep HB.out ((hcQ.set (.inr rfl) _).set (.inr rfl) _) (fun k e => by omega) HB.out.size)
              exact AllReadyH.nil
            exact AllReadyH.nil
          exact AllReadyH.nil
        refine AllReadyH.cons rfl (fun K hK => ?_) ?_
        · go_simp
          refine hK.out _ _ ?_ (fun hHeld => ?_)
          · (try dsimp only)
            first | exact KP.out _ hc0 | exact KP.out _ hcL | exact KP.out _ hcO | exact KP.out _ (hcO.alloc _) | exact KP.out _ hcM | exact KP.out _ (hcM.alloc _) | exact KP.out _ hcQ | exact KP.out _ ((hcQ.set (.inr rfl) _).set (.inr rfl) _)
          clear hK K
          try simp only [Act.put, List.setIfInBounds_toArray, List.set_cons_zero, List.set_cons_succ]
          refine wpAnyH_ready (rs := [8]) (by kernel_rfl) (by simp) ?_
          refine AllReadyH.cons rfl (fun K hK => ?_) ?_
          · go_simp
            have hzWO : wO.heap.size ≤ (wO.alloc (Obj.cells #[Value.int .i64 0, Value.int .i64 1, Value.int .i64 2, Value.int .i64 3, Value.int .i64 5, Value.int .i64 64, Value.int .i64 65, Value.int .i64 (-1)] 3)).heap.size := by simp
            have hPO := hide (new_ints wO #[Value.int .i64 0, Value.int .i64 1, Value.int .i64 2, Value.int .i64 3, Value.int .i64 5, Value.int .i64 64, Value.int .i64 65, Value.int .i64 (-1)] 3 (fun z => -1 ≤ z ∧ z ≤ 65) hLV 8 (by simp))
            go_at_call 25
            refine (makeS bt2 aX _ cX xs (wO.alloc (Obj.cells #[Value.int .i64 0, Value.int .i64 1, Value.int .i64 2, Value.int .i64 3, Value.int .i64 5, Value.int .i64 64, Value.int .i64 65, Value.int .i64 (-1)] 3)) (OXO.out.seg.below (bl_alloc (bl_refl wO) (Obj.cells #[Value.int .i64 0, Value.int .i64 1, Value.int .i64 2, Value.int .i64 3, Value.int .i64 5, Value.int .i64 64, Value.int .i64 65, Value.int .i64 (-1)] 3))) (by omega)).mono ?_
            rintro e wM ⟨vM, rfl, hvM, hbM⟩
            have hcM : Chg (fun k => k = B ∨ k = w.heap.size) w10 wM := (hcO.alloc (Obj.cells #[Value.int .i64 0, Value.int .i64 1, Value.int .i64 2, Value.int .i64 3, Value.int .i64 5, Value.int .i64 64, Value.int .i64 65, Value.int .i64 (-1)] 3)).trans (Chg.below hbM)
            have hzM := hcM.size
            have HCM := hide ((HCO.out.alloc (Obj.cells #[Value.int .i64 0, Value.int .i64 1, Value.int .i64 2, Value.int .i64 3, Value.int .i64 5, Value.int .i64 64, Value.int .i64 65, Value.int .i64 (-1)] 3)).bel hbM)
            have XrM := hide (hbel (hnewer XrO.out (Obj.cells #[Value.int .i64 0, Value.int .i64 1, Value.int .i64 2, Value.int .i64 3, Value.int .i64 5, Value.int .i64 64, Value.int .i64 65, Value.int .i64 (-1)] 3)) hbM (hlt (hnewer XrO.out (Obj.cells #[Value.int .i64 0, Value.int .i64 1, Value.int .i64 2, Value.int .i64 3, Value.int .i64 5, Value.int .i64 64, Value.int .i64 65, Value.int .i64 (-1)] 3))))
            obtain ⟨aM, cM, rfl, hoM⟩ := hvM
            have OM := hide hoM
            have HLc := hide (ints_bel hPO.out hbM (show wO.heap.size < (wO.alloc (Obj.cells #[Value.int .i64 0, Value.int .i64 1, Value.int .i64 2, Value.int .i64 3, Value.int .i64 5, Value.int .i64 64, Value.int .i64 65, Value.int .i64 (-1)] 3)).heap.size by simp))
            have hzHLc : wO.heap.size < wM.heap.size := Nat.lt_of_lt_of_le (show wO.heap.size < (wO.alloc (Obj.cells #[Value.int .i64 0, Value.int .i64 1, Value.int .i64 2, Value.int .i64 3, Value.int .i64 5, Value.int .i64 64, Value.int .i64 65, Value.int .i64 (-1)] 3)).heap.size by simp) hbM.size
            clear hbM hoM
            refine hK.out _ _ ?_ (fun hHeld => ?_)
            · (try dsimp only)
              first | exact KP.out _ hc0 | exact KP.out _ hcL | exact KP.out _ hcO | exact KP.out _ (hcO.alloc _) | exact KP.out _ hcM | exact KP.out _ (hcM.alloc _) | exact KP.out _ hcQ | exact KP.out _ ((hcQ.set (.inr rfl) _).set (.inr rfl) _)
            clear hK K
            try simp only [Act.put, List.setIfInBounds_toArray, List.set_cons_zero, List.set_cons_succ]
            refine wpAnyH_ready (rs := [11]) (by kernel_rfl) (by simp) ?_
            refine AllReadyH.cons rfl (fun K hK => ?_) ?_
            · go_simp
              go_at_call 28
              refine (pickIntD B a len cap wM HCM.out wO.heap.size 8 (fun z => -1 ≤ z ∧ z ≤ 65) hzHLc (by omega) (by omega) (by omega) HLc.out).mono ?_
              rintro e wQ ⟨q, hq, rfl, hcN, hoQ⟩
              have hcMQ : Chg (fun k => k = B) wM wQ := hoQ.chg
              have hcQ : Chg (fun k => k = B ∨ k = w.heap.size) w10 wQ := hcM.trans (hoQ.chg.mono (fun k e => .inl e))
              have XrQ := hide (hoQ.chg.heap XrM.out (by omega))
              have OQ := hide (OM.out.chg hcMQ (fun b h1 h2 => by omega))
              obtain ⟨hqa, hqb⟩ := hq
              have q0 := (Lib.cell_of_heap XrQ.out 0).trans (show _ = some (Value.bool false) from rfl)
              have q9 := (Lib.cell_of_heap XrQ.out 1).trans (show _ = some (Value.slice none 0 0) from rfl)
              have g0 := Lib.frozen_of_heap XrQ.out 0
              have g9 := Lib.frozen_of_heap XrQ.out 1
              clear hcN hoQ
              refine hK.out _ _ ?_ (fun hHeld => ?_)
              · (try dsimp only)
                first | exact KP.out _ hc0 | exact KP.out _ hcL | exact KP.out _ hcO | exact KP.out _ (hcO.alloc _) | exact KP.out _ hcM | exact KP.out _ (hcM.alloc _) | exact KP.out _ hcQ | exact KP.out _ ((hcQ.set (.inr rfl) _).set (.inr rfl) _)
              clear hK K
              try simp only [Act.put, List.setIfInBounds_toArray, List.set_cons_zero, List.set_cons_succ]
              refine wpAnyH_ready (rs := [12]) (by kernel_rfl) (by simp) ?_
              refine AllReadyH.cons rfl (fun K hK => ?_) ?_
              · go_simp
                refine hK.out _ _ ?_ (fun hHeld => ?_)
                · (try dsimp only)
                  first | exact KP.out _ hc0 | exact KP.out _ hcL | exact KP.out _ hcO | exact KP.out _ (hcO.alloc _) | exact KP.out _ hcM | exact KP.out _ (hcM.alloc _) | exact KP.out _ hcQ | exact KP.out _ ((hcQ.set (.inr rfl) _).set (.inr rfl) _)
                clear hK K
                try simp only [Act.put, List.setIfInBounds_toArray, List.set_cons_zero, List.set_cons_succ]
                refine wpAnyH_take (i := 13) (v := ?_) rfl (by kernel_rfl) (by kernel_rfl) (by kernel_rfl) (fun _ _ _ h => h) (Or.inl ⟨by rfl, ?_⟩) (by assumption) ?_
                rotate_left 1
                · intro wS hSw
                  (try dsimp only at hSw)
                  go_simp
                  all_goals with_reducible rfl
                try simp only [Act.put, List.setIfInBounds_toArray, List.set_cons_zero, List.set_cons_succ]
                refine wpAnyH_done (by kernel_rfl) ?_ _
                all_goals go_wp2
                refine bodyPost_ret (v := .tuple #[.agg #[.bool (sgn (mk bt2 (Num.nat xs))), .slice aM (lms (mk bt2 (Num.nat xs))).length cM], .int .i64 q]) (by simp [results, Try.results6, go_sem, *]) rfl ?_
                exact drOut _ aM cM _ q rfl (by omega) ((OQ.out.setCell (p := ⟨w.heap.size, 0, none⟩) (by dsimp only; omega) _).setCell (p := ⟨w.heap.size, 1, none⟩) (by dsimp only; omega) _).seg (Chg.keep HB.out ((hcQ.set (.inr rfl) _).set (.inr rfl) _) (fun k e => by omega) HB.out.size)
              exact AllReadyH.nil
            exact AllReadyH.nil
          exact AllReadyH.nil
        exact AllReadyH.nil
      refine AllReadyH.cons rfl (fun K hK => ?_) ?_
      · go_simp
        refine hK.out _ _ ?_ (fun hHeld => ?_)
        · (try dsimp only)
          first | exact KP.out _ hc0 | exact KP.out _ hcL | exact KP.out _ hcO | exact KP.out _ (hcO.alloc _) | exact KP.out _ hcM | exact KP.out _ (hcM.alloc _) | exact KP.out _ hcQ | exact KP.out _ ((hcQ.set (.inr rfl) _).set (.inr rfl) _)
        clear hK K
        try simp only [Act.put, List.setIfInBounds_toArray, List.set_cons_zero, List.set_cons_succ]
        refine wpAnyH_ready (rs := [4]) (by kernel_rfl) (by simp) ?_
        refine AllReadyH.cons rfl (fun K hK => ?_) ?_
        · go_simp
          go_at_call 23
          refine (onceD B a len cap (w10.drew.alloc (Obj.cells #[Value.int .i64 0, Value.int .i64 1, Value.int .i64 2, Value.int .i64 3, Value.int .i64 5, Value.int .i64 64, Value.int .i64 65, Value.int .i64 (-1)] 3)) HCL.out 5 (by omega)).mono ?_
          rintro e wO ⟨bt2, rfl, hcN, hoO⟩
          have hcO : Chg (fun k => k = B ∨ k = w.heap.size) w10 wO := hcL.trans (hoO.chg.mono (fun k e => .inl e))
          have hzO := hcO.size
          have HCO := hide hcN
          have XrO := hide (hoO.chg.heap XrL.out (by omega))
          have OXO := hide (OX.out.chg hcO (fun b h1 h2 => by omega))
          have HLa := hide (ints_only HPK.out hoO hzL (by omega))
          have hzLO : w10.heap.size < wO.heap.size := Nat.lt_of_lt_of_le hzL hoO.size
          clear hcN hoO
          refine hK.out _ _ ?_ (fun hHeld => ?_)
          · (try dsimp only)
            first | exact KP.out _ hc0 | exact KP.out _ hcL | exact KP.out _ hcO | exact KP.out _ (hcO.alloc _) | exact KP.out _ hcM | exact KP.out _ (hcM.alloc _) | exact KP.out _ hcQ | exact KP.out _ ((hcQ.set (.inr rfl) _).set (.inr rfl) _)
          clear hK K
          try simp only [Act.put, List.setIfInBounds_toArray, List.set_cons_zero, List.set_cons_succ]
          refine wpAnyH_take (i := 5) (v := ?_) rfl (by kernel_rfl) (by kernel_rfl) (by kernel_rfl) (fun _ _ _ h => h) (Or.inl ⟨by rfl, ?_⟩) (by assumption) ?_
          rotate_left 1
          · intro wS hSw
            (try dsimp only at hSw)
            go_simp
            all_goals with_reducible rfl
          try simp only [Act.put, List.setIfInBounds_toArray, List.set_cons_zero, List.set_cons_succ]
          refine wpAnyH_ready (rs := [8]) (by kernel_rfl) (by simp) ?_
          refine AllReadyH.cons rfl (fun K hK => ?_) ?_
          · go_simp
            go_at_call 25
            refine (makeS bt2 aX _ cX xs wO OXO.out.seg (by omega)).mono ?_
            rintro e wM ⟨vM, rfl, hvM, hbM⟩
            have hcM : Chg (fun k => k = B ∨ k = w.heap.size) w10 wM := hcO.trans (Chg.below hbM)
            have hzM := hcM.size
            have HCM := hide (HCO.out.bel hbM)
            have XrM := hide (hbel XrO.out hbM (hlt XrO.out))
            obtain ⟨aM, cM, rfl, hoM⟩ := hvM
            have OM := hide hoM
            have HLc := hide (ints_bel HLa.out hbM hzLO)
            have hzHLc : w10.heap.size < wM.heap.size := Nat.lt_of_lt_of_le hzLO hbM.size
            clear hbM hoM
            refine hK.out _ _ ?_ (fun hHeld => ?_)
            · (try dsimp only)
              first | exact KP.out _ hc0 | exact KP.out _ hcL | exact KP.out _ hcO | exact KP.out _ (hcO.alloc _) | exact KP.out _ hcM | exact KP.out _ (hcM.alloc _) | exact KP.out _ hcQ | exact KP.out _ ((hcQ.set (.inr rfl) _).set (.inr rfl) _)
            clear hK K
            try simp only [Act.put, List.setIfInBounds_toArray, List.set_cons_zero, List.set_cons_succ]
            refine wpAnyH_ready (rs := [11]) (by kernel_rfl) (by simp) ?_
            refine AllReadyH.cons rfl (fun K hK => ?_) ?_
            · go_simp
              go_at_call 28
              refine (pickIntD B a len cap wM HCM.out w10.heap.size 8 (fun z => -1 ≤ z ∧ z ≤ 65) hzHLc (by omega) (by omega) (by omega) HLc.out).mono ?_
              rintro e wQ ⟨q, hq, rfl, hcN, hoQ⟩
              have hcMQ : Chg (fun k => k = B) wM wQ := hoQ.chg
              have hcQ : Chg (fun k => k = B ∨ k = w.heap.size) w10 wQ := hcM.trans (hoQ.chg.mono (fun k e => .inl e))
              have XrQ := hide (hoQ.chg.heap XrM.out (by omega))
              have OQ := hide (OM.out.chg hcMQ (fun b h1 h2 => by omega))
              obtain ⟨hqa, hqb⟩ := hq
              have q0 := (Lib.cell_of_heap XrQ.out 0).trans (show _ = some (Value.bool false) from rfl)
              have q9 := (Lib.cell_of_heap XrQ.out 1).trans (show _ = some (Value.slice none 0 0) from rfl)
              have g0 := Lib.frozen_of_heap XrQ.out 0
              have g9 := Lib.frozen_of_heap XrQ.out 1
              clear hcN hoQ
              refine hK.out _ _ ?_ (fun hHeld => ?_)
              · (try dsimp only)
                first | exact KP.out _ hc0 | exact KP.out _ hcL | exact KP.out _ hcO | exact KP.out _ (hcO.alloc _) | exact KP.out _ hcM | exact KP.out _ (hcM.alloc _) | exact KP.out _ hcQ | exact KP.out _ ((hcQ.set (.inr rfl) _).set (.inr rfl) _)
              clear hK K
              try simp only [Act.put, List.setIfInBounds_toArray, List.set_cons_zero, List.set_cons_succ]
              refine wpAnyH_ready (rs := [12]) (by kernel_rfl) (by simp) ?_
              refine AllReadyH.cons rfl (fun K hK => ?_) ?_
              · go_simp
                refine hK.out _ _ ?_ (fun hHeld => ?_)
                · (try dsimp only)
                  first | exact KP.out _ hc0 | exact KP.out _ hcL | exact KP.out _ hcO | exact KP.out _ (hcO.alloc _) | exact KP.out _ hcM | exact KP.out _ (hcM.alloc _) | exact KP.out _ hcQ | exact KP.out _ ((hcQ.set (.inr rfl) _).set (.inr rfl) _)
                clear hK K
                try simp only [Act.put, List.setIfInBounds_toArray, List.set_cons_zero, List.set_cons_succ]
                refine wpAnyH_take (i := 13) (v := ?_) rfl (by kernel_rfl) (by kernel_rfl) (by kernel_rfl) (fun _ _ _ h => h) (Or.inl ⟨by rfl, ?_⟩) (by assumption) ?_
                rotate_left 1
                · intro wS hSw
                  (try dsimp only at hSw)
                  go_simp
                  all_goals with_reducible rfl
                try simp only [Act.put, List.setIfInBounds_toArray, List.set_cons_zero, List.set_cons_succ]
                refine wpAnyH_done (by kernel_rfl) ?_ _
                all_goals go_wp2
                refine bodyPost_ret (v := .tuple #[.agg #[.bool (sgn (mk bt2 (Num.nat xs))), .slice aM (lms (mk bt2 (Num.nat xs))).length cM], .int .i64 q]) (by simp [results, Try.results6, go_sem, *]) rfl ?_
                exact drOut _ aM cM _ q rfl (by omega) ((OQ.out.setCell (p := ⟨w.heap.size, 0, none⟩) (by dsimp only; omega) _).setCell (p := ⟨w.heap.size, 1, none⟩) (by dsimp only; omega) _).seg (Chg.keep HB.out ((hcQ.set (.inr rfl) _).set (.inr rfl) _) (fun k e => by omega) HB.out.size)
              exact AllReadyH.nil
            exact AllReadyH.nil
          exact AllReadyH.nil
        exact AllReadyH.nil
      exact AllReadyH.nil
end Go.Proofs.Ythjapjbiclkhcaa
