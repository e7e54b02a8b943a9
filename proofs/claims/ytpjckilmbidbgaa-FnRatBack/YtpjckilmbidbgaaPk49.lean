/- My texts DrR, in this order. -/
import Derived.Test.YtpjckilmbidbgaaPk04
import Derived.Test.YtpjckilmbidbgaaPk48
import Derived.Test.YtpjckilmbidbgaaPk02
/- Draws of fractions: the state in the midst of one, and what helps. -/
namespace Go.Proofs.Ytpjckilmbidbgaa
open Go.RowKit
set_option linter.unusedVariables false

/-- in the midst of a draw of a fraction: the cursor, the box of the answer, all that was there -/
structure Dst4 (w : World) (B : Nat) (a : Option Addr) (len cap : Nat) (wr : World) : Prop where
  cur : Cur B a len cap wr
  only : Only B w wr
  r0 : wr.cell? ⟨w.heap.size, 0, none⟩ = some (.bool false)
  r1 : wr.cell? ⟨w.heap.size, 1, none⟩ = some (.slice none 0 0)
  r2 : wr.cell? ⟨w.heap.size, 2, none⟩ = some (.bool false)
  r3 : wr.cell? ⟨w.heap.size, 3, none⟩ = some (.slice none 0 0)
  g0 : wr.frozen? ⟨w.heap.size, 0, none⟩ = false
  g1 : wr.frozen? ⟨w.heap.size, 1, none⟩ = false
  g2 : wr.frozen? ⟨w.heap.size, 2, none⟩ = false
  g3 : wr.frozen? ⟨w.heap.size, 3, none⟩ = false
  z : w.heap.size < wr.heap.size
theorem Dst4.init {w : World} {B : Nat} {a : Option Addr} {len cap : Nat} (h : Cur B a len cap w) : Dst4 w B a len cap (w.alloc (Obj.cells #[Value.bool false, Value.slice none 0 0, Value.bool false, Value.slice none 0 0] 28)) :=
  ⟨h.alloc _, (Only.refl B w).alloc _, by go_simp, by go_simp, by go_simp, by go_simp, by go_simp, by go_simp, by go_simp, by go_simp, by simp only [World.size_alloc]; omega⟩
theorem Dst4.on {w2 : World} {w wr : World} {B : Nat} {a : Option Addr} {len cap : Nat} (h : Dst4 w B a len cap wr) (hB : B < w.heap.size) (hc : Cur B a len cap w2) (ho : Only B wr w2) : Dst4 w B a len cap w2 := by
  have hz := h.z
  exact ⟨hc, h.only.trans ho, (ho.cell (p := ⟨w.heap.size, 0, none⟩) hz (by dsimp only; omega)).trans h.r0, (ho.cell (p := ⟨w.heap.size, 1, none⟩) hz (by dsimp only; omega)).trans h.r1, (ho.cell (p := ⟨w.heap.size, 2, none⟩) hz (by dsimp only; omega)).trans h.r2, (ho.cell (p := ⟨w.heap.size, 3, none⟩) hz (by dsimp only; omega)).trans h.r3, (ho.frozen (p := ⟨w.heap.size, 0, none⟩) hz (by dsimp only; omega)).trans h.g0, (ho.frozen (p := ⟨w.heap.size, 1, none⟩) hz (by dsimp only; omega)).trans h.g1, (ho.frozen (p := ⟨w.heap.size, 2, none⟩) hz (by dsimp only; omega)).trans h.g2, (ho.frozen (p := ⟨w.heap.size, 3, none⟩) hz (by dsimp only; omega)).trans h.g3, Nat.lt_of_lt_of_le hz ho.size⟩
theorem Dst4.bel {w2 : World} {w wr : World} {B : Nat} {a : Option Addr} {len cap : Nat} (h : Dst4 w B a len cap wr) (hb : Below wr.heap.size wr w2) : Dst4 w B a len cap w2 := by
  have hz := h.z
  exact ⟨h.cur.bel hb, h.only.bel hb, (hb.cell (p := ⟨w.heap.size, 0, none⟩) hz).trans h.r0, (hb.cell (p := ⟨w.heap.size, 1, none⟩) hz).trans h.r1, (hb.cell (p := ⟨w.heap.size, 2, none⟩) hz).trans h.r2, (hb.cell (p := ⟨w.heap.size, 3, none⟩) hz).trans h.r3, (hb.frozen (p := ⟨w.heap.size, 0, none⟩) hz).trans h.g0, (hb.frozen (p := ⟨w.heap.size, 1, none⟩) hz).trans h.g1, (hb.frozen (p := ⟨w.heap.size, 2, none⟩) hz).trans h.g2, (hb.frozen (p := ⟨w.heap.size, 3, none⟩) hz).trans h.g3, Nat.lt_of_lt_of_le hz hb.size⟩
theorem set_four_b {w w1 : World} {N : Nat} (hN : w.heap.size ≤ N) (x y z t : Value) : Below w.heap.size w1 ((((w1.setCell ⟨N, 0, none⟩ x).setCell ⟨N, 1, none⟩ y).setCell ⟨N, 2, none⟩ z).setCell ⟨N, 3, none⟩ t) :=
  ((((Below.refl w.heap.size w1).setCell (p := ⟨N, 0, none⟩) hN x).setCell (p := ⟨N, 1, none⟩) hN y).setCell (p := ⟨N, 2, none⟩) hN z).setCell (p := ⟨N, 3, none⟩) hN t
theorem Dst4.fin {w wr : World} {B : Nat} {a : Option Addr} {len cap : Nat} (h : Dst4 w B a len cap wr) (hB : B < w.heap.size) (x y z t : Value) : Cur B a len cap ((((wr.setCell ⟨w.heap.size, 0, none⟩ x).setCell ⟨w.heap.size, 1, none⟩ y).setCell ⟨w.heap.size, 2, none⟩ z).setCell ⟨w.heap.size, 3, none⟩ t) ∧ Only B w ((((wr.setCell ⟨w.heap.size, 0, none⟩ x).setCell ⟨w.heap.size, 1, none⟩ y).setCell ⟨w.heap.size, 2, none⟩ z).setCell ⟨w.heap.size, 3, none⟩ t) := by
  have hb : Below w.heap.size wr ((((wr.setCell ⟨w.heap.size, 0, none⟩ x).setCell ⟨w.heap.size, 1, none⟩ y).setCell ⟨w.heap.size, 2, none⟩ z).setCell ⟨w.heap.size, 3, none⟩ t) := set_four_b (Nat.le_refl _) x y z t
  exact ⟨h.cur.kept (hb.mono hB), ⟨hb.os.trans h.only.os, hb.tape.trans h.only.tape, hb.output.trans h.only.output, Nat.le_trans h.only.size hb.size, fun k hk hn => (hb.block k hk).trans (h.only.block k hk hn)⟩⟩
theorem own_four {w w1 : World} {N b n c : Nat} {a : Option Addr} {xs : List Nat} (h : Own w1 b a n c xs) (hN : N < b) (wN : w.heap.size ≤ N) (x y z t : Value) : Own ((((w1.setCell ⟨N, 0, none⟩ x).setCell ⟨N, 1, none⟩ y).setCell ⟨N, 2, none⟩ z).setCell ⟨N, 3, none⟩ t) w.heap.size a n c xs :=
  ((((h.setCell (p := ⟨N, 0, none⟩) hN x).setCell (p := ⟨N, 1, none⟩) hN y).setCell (p := ⟨N, 2, none⟩) hN z).setCell (p := ⟨N, 3, none⟩) hN t).mono (by omega)
/-- a drawn fraction, of numbers -/
def RatN (w : World) (B : Nat) (a : Option Addr) (len cap : Nat) (w' : World) (e : Ending) : Prop :=
  ∃ p a1 c1 q a2 c2, e = .returned (.agg #[.bool (sgn p), .slice a1 (lms p).length c1, .bool (sgn q), .slice a2 (lms q).length c2]) ∧ (lms p).length ≤ 100 ∧ (lms q).length ≤ 100 ∧ Own w' w.heap.size a1 (lms p).length c1 (lms p) ∧ Own w' w.heap.size a2 (lms q).length c2 (lms q) ∧ Cur B a len cap w' ∧ Only B w w'
theorem Dst4.done {w wr : World} {B : Nat} {a : Option Addr} {len cap : Nat} {p q : Int} {a1 a2 : Option Addr} {c1 c2 b1 b2 : Nat} (h : Dst4 w B a len cap wr) (hB : B < w.heap.size) (lp : (lms p).length ≤ 100) (lq : (lms q).length ≤ 100) (o1 : Own wr b1 a1 (lms p).length c1 (lms p)) (o2 : Own wr b2 a2 (lms q).length c2 (lms q)) (h1 : w.heap.size < b1) (h2 : w.heap.size < b2) (x y z t : Value) :
    RatN w B a len cap ((((wr.setCell ⟨w.heap.size, 0, none⟩ x).setCell ⟨w.heap.size, 1, none⟩ y).setCell ⟨w.heap.size, 2, none⟩ z).setCell ⟨w.heap.size, 3, none⟩ t) (.returned (.agg #[.bool (sgn p), .slice a1 (lms p).length c1, .bool (sgn q), .slice a2 (lms q).length c2])) :=
  ⟨p, a1, c1, q, a2, c2, rfl, lp, lq, own_four o1 h1 (Nat.le_refl _) _ _ _ _, own_four o2 h2 (Nat.le_refl _) _ _ _ _, (h.fin hB x y z t).1, (h.fin hB x y z t).2⟩
theorem len_quot {x g : Int} (h : g ∣ x) : (lms (x / g)).length ≤ (lms x).length := by
  unfold lms
  refine limbs_mono ?_
  obtain ⟨k, rfl⟩ := h
  by_cases hg : g = 0
  · subst hg; simp
  · rw [Int.mul_ediv_cancel_left _ hg, Int.natAbs_mul]
    exact Nat.le_mul_of_pos_left _ (by omega)
theorem dvd_sgG (x y : Int) : sgG x y ∣ x ∧ sgG x y ∣ y := by
  unfold sgG; split
  · exact ⟨Int.neg_dvd.2 (Int.gcd_dvd_left ..), Int.neg_dvd.2 (Int.gcd_dvd_right ..)⟩
  · exact ⟨Int.gcd_dvd_left .., Int.gcd_dvd_right ..⟩
theorem len_red {x y : Int} {n : Nat} (hx : (lms x).length ≤ n) (hy : (lms y).length ≤ n) : (lms (x / sgG x y)).length ≤ n ∧ (lms (y / sgG x y)).length ≤ n :=
  ⟨Nat.le_trans (len_quot (dvd_sgG x y).1) hx, Nat.le_trans (len_quot (dvd_sgG x y).2) hy⟩
end Go.Proofs.Ytpjckilmbidbgaa
