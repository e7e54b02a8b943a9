/- My texts Prod, LawBase, Mul, Digit, in this order. -/
import Derived.Test.YthjapjbiclkhcaaPk02
import Derived.Test.YthjapjbiclkhcaaPk03
import Derived.Deep.RegionHeld3
import Derived.Deep.DeepCutAuto
import Derived.Test.YthjapjbiclkhcaaPk05
import Derived.Test.YthjapjbiclkhcaaPk01
/- The walk of bigProduct: the product of two numbers of any size, in new memory. -/
namespace Go.Proofs.Ythjapjbiclkhcaa
open Go.RowKit
set_option linter.unusedVariables false

theorem mk_mul (n1 n2 : Bool) (x y : Nat) : mk (!n1 == n2) (x * y) = mk n1 x * mk n2 y := by
  cases n1 <;> cases n2 <;> simp [mk, Int.mul_neg, Int.neg_mul]

set_option maxHeartbeats 4000000 in
set_option maxRecDepth 20000 in
theorem prodI (v1 v2 : Value) (n1 n2 : Bool) (x y : Nat) (w : World) (h1 : Raw w v1 n1 (Num.limbs x)) (h2 : Raw w v2 n2 (Num.limbs y)) (l1 : (Num.limbs x).length ≤ 500000) (l2 : (Num.limbs y).length ≤ 500000) :
    Calls Try.prog 60 #[v1, v2] w fun e w' => ∃ v, e = .returned v ∧ New w' w.heap.size v (mk n1 x * mk n2 y) ∧ Below w.heap.size w w' := by
  obtain ⟨i0, hi, hz0, hz1, hz2⟩ := info_parts Try.info56
  obtain ⟨a, ca, rfl, ha⟩ := h1
  obtain ⟨b, cb, rfl, hb⟩ := h2
  have hca := ha.2.1
  have hcm := ha.2.2.1
  have hcb := hb.2.1
  have hcbm := hb.2.2.1
  have HA := hide ha
  have HBB := hide hb
  clear ha hb
  have HZ := hide (bl_alloc (bl_alloc (bl_alloc (bl_refl w) (Obj.cells #[Value.bool n1, Value.slice a (Num.limbs x).length ca] 26)) (Obj.cells #[Value.bool n2, Value.slice b (Num.limbs y).length cb] 26)) (Obj.cells #[Value.bool false, Value.slice none 0 0] 26))
  have kP0 : (((w.alloc (Obj.cells #[Value.bool n1, Value.slice a (Num.limbs x).length ca] 26)).alloc (Obj.cells #[Value.bool n2, Value.slice b (Num.limbs y).length cb] 26)).alloc (Obj.cells #[Value.bool false, Value.slice none 0 0] 26)).cell? ⟨w.heap.size, 0, none⟩ = some (Value.bool n1) := by go_simp
  have fP0 : (((w.alloc (Obj.cells #[Value.bool n1, Value.slice a (Num.limbs x).length ca] 26)).alloc (Obj.cells #[Value.bool n2, Value.slice b (Num.limbs y).length cb] 26)).alloc (Obj.cells #[Value.bool false, Value.slice none 0 0] 26)).frozen? ⟨w.heap.size, 0, none⟩ = false := by go_simp
  have kP1 : (((w.alloc (Obj.cells #[Value.bool n1, Value.slice a (Num.limbs x).length ca] 26)).alloc (Obj.cells #[Value.bool n2, Value.slice b (Num.limbs y).length cb] 26)).alloc (Obj.cells #[Value.bool false, Value.slice none 0 0] 26)).cell? ⟨w.heap.size, 1, none⟩ = some (Value.slice a (Num.limbs x).length ca) := by go_simp
  have fP1 : (((w.alloc (Obj.cells #[Value.bool n1, Value.slice a (Num.limbs x).length ca] 26)).alloc (Obj.cells #[Value.bool n2, Value.slice b (Num.limbs y).length cb] 26)).alloc (Obj.cells #[Value.bool false, Value.slice none 0 0] 26)).frozen? ⟨w.heap.size, 1, none⟩ = false := by go_simp
  have kQ0 : (((w.alloc (Obj.cells #[Value.bool n1, Value.slice a (Num.limbs x).length ca] 26)).alloc (Obj.cells #[Value.bool n2, Value.slice b (Num.limbs y).length cb] 26)).alloc (Obj.cells #[Value.bool false, Value.slice none 0 0] 26)).cell? ⟨w.heap.size + 1, 0, none⟩ = some (Value.bool n2) := by go_simp
  have fQ0 : (((w.alloc (Obj.cells #[Value.bool n1, Value.slice a (Num.limbs x).length ca] 26)).alloc (Obj.cells #[Value.bool n2, Value.slice b (Num.limbs y).length cb] 26)).alloc (Obj.cells #[Value.bool false, Value.slice none 0 0] 26)).frozen? ⟨w.heap.size + 1, 0, none⟩ = false := by go_simp
  have kQ1 : (((w.alloc (Obj.cells #[Value.bool n1, Value.slice a (Num.limbs x).length ca] 26)).alloc (Obj.cells #[Value.bool n2, Value.slice b (Num.limbs y).length cb] 26)).alloc (Obj.cells #[Value.bool false, Value.slice none 0 0] 26)).cell? ⟨w.heap.size + 1, 1, none⟩ = some (Value.slice b (Num.limbs y).length cb) := by go_simp
  have fQ1 : (((w.alloc (Obj.cells #[Value.bool n1, Value.slice a (Num.limbs x).length ca] 26)).alloc (Obj.cells #[Value.bool n2, Value.slice b (Num.limbs y).length cb] 26)).alloc (Obj.cells #[Value.bool false, Value.slice none 0 0] 26)).frozen? ⟨w.heap.size + 1, 1, none⟩ = false := by go_simp
  have kR0 : (((w.alloc (Obj.cells #[Value.bool n1, Value.slice a (Num.limbs x).length ca] 26)).alloc (Obj.cells #[Value.bool n2, Value.slice b (Num.limbs y).length cb] 26)).alloc (Obj.cells #[Value.bool false, Value.slice none 0 0] 26)).cell? ⟨w.heap.size + 1 + 1, 0, none⟩ = some (Value.bool false) := by go_simp
  have fR0 : (((w.alloc (Obj.cells #[Value.bool n1, Value.slice a (Num.limbs x).length ca] 26)).alloc (Obj.cells #[Value.bool n2, Value.slice b (Num.limbs y).length cb] 26)).alloc (Obj.cells #[Value.bool false, Value.slice none 0 0] 26)).frozen? ⟨w.heap.size + 1 + 1, 0, none⟩ = false := by go_simp
  have kR1 : (((w.alloc (Obj.cells #[Value.bool n1, Value.slice a (Num.limbs x).length ca] 26)).alloc (Obj.cells #[Value.bool n2, Value.slice b (Num.limbs y).length cb] 26)).alloc (Obj.cells #[Value.bool false, Value.slice none 0 0] 26)).cell? ⟨w.heap.size + 1 + 1, 1, none⟩ = some (Value.slice none 0 0) := by go_simp
  have fR1 : (((w.alloc (Obj.cells #[Value.bool n1, Value.slice a (Num.limbs x).length ca] 26)).alloc (Obj.cells #[Value.bool n2, Value.slice b (Num.limbs y).length cb] 26)).alloc (Obj.cells #[Value.bool false, Value.slice none 0 0] 26)).frozen? ⟨w.heap.size + 1 + 1, 1, none⟩ = false := by go_simp
  have q1 : w.heap.size + 3 ≤ (((w.alloc (Obj.cells #[Value.bool n1, Value.slice a (Num.limbs x).length ca] 26)).alloc (Obj.cells #[Value.bool n2, Value.slice b (Num.limbs y).length cb] 26)).alloc (Obj.cells #[Value.bool false, Value.slice none 0 0] 26)).heap.size := by simp only [World.size_alloc]; omega
  go_enter Try.func60, Try.ntmps60
  go_upto_region 1 with fail
  generalize (((w.alloc (Obj.cells #[Value.bool n1, Value.slice a (Num.limbs x).length ca] 26)).alloc (Obj.cells #[Value.bool n2, Value.slice b (Num.limbs y).length cb] 26)).alloc (Obj.cells #[Value.bool false, Value.slice none 0 0] 26)) = w1 at *
  go_wp2_with (at_make; refine wpList_make_full _ rfl _ _ 24 rfl w1.heap.size 56 i0 (.int .u32 0) 1 Try.underlying24 hi hz0 hz1 _ _ _ _ ((Num.limbs x).length + (Num.limbs y).length) rfl rfl (by push_cast; rfl) (by push_cast; rfl) (by rw [hz2]; omega) (by unfold maxLen; omega) (Nat.le_refl _) ?_; intro w3 hown hgrow; replace kP0 : w3.cell? ⟨w.heap.size, 0, none⟩ = some (Value.bool n1) := hgrow.cell kP0 (by simp); replace fP0 : w3.frozen? ⟨w.heap.size, 0, none⟩ = false := (grown_frozen hgrow (by dsimp only; omega) (by simp)).trans fP0; replace kP1 : w3.cell? ⟨w.heap.size, 1, none⟩ = some (Value.slice a (Num.limbs x).length ca) := hgrow.cell kP1 (by simp); replace fP1 : w3.frozen? ⟨w.heap.size, 1, none⟩ = false := (grown_frozen hgrow (by dsimp only; omega) (by simp)).trans fP1; replace kQ0 : w3.cell? ⟨w.heap.size + 1, 0, none⟩ = some (Value.bool n2) := hgrow.cell kQ0 (by simp); replace fQ0 : w3.frozen? ⟨w.heap.size + 1, 0, none⟩ = false := (grown_frozen hgrow (by dsimp only; omega) (by simp)).trans fQ0; replace kQ1 : w3.cell? ⟨w.heap.size + 1, 1, none⟩ = some (Value.slice b (Num.limbs y).length cb) := hgrow.cell kQ1 (by simp); replace fQ1 : w3.frozen? ⟨w.heap.size + 1, 1, none⟩ = false := (grown_frozen hgrow (by dsimp only; omega) (by simp)).trans fQ1; replace kR0 : w3.cell? ⟨w.heap.size + 1 + 1, 0, none⟩ = some (Value.bool false) := hgrow.cell kR0 (by simp); replace fR0 : w3.frozen? ⟨w.heap.size + 1 + 1, 0, none⟩ = false := (grown_frozen hgrow (by dsimp only; omega) (by simp)).trans fR0; replace kR1 : w3.cell? ⟨w.heap.size + 1 + 1, 1, none⟩ = some (Value.slice none 0 0) := hgrow.cell kR1 (by simp); replace fR1 : w3.frozen? ⟨w.heap.size + 1 + 1, 1, none⟩ = false := (grown_frozen hgrow (by dsimp only; omega) (by simp)).trans fR1; have HZ3 := hide (HZ.out.grown hgrow (by omega) (by simp)); have B3 := hide (own_made2 hown).blk; have q3 := B3.out.lt; clear hown hgrow)
  go_loopw [6, 7, 19] (fun _ _ i wr => ∃ (k : Nat) (Y : List Nat), k ≤ (Num.limbs x).length ∧ i = .int .i64 k ∧ Y.length = (Num.limbs x).length + (Num.limbs y).length ∧ Hid (Blk wr w1.heap.size Y) ∧ Hid (Num.nat (Y.drop (k + (Num.limbs y).length)) = 0) ∧ Hid (Num.nat Y = Num.nat ((Num.limbs x).take k) * Num.nat (Num.limbs y)) ∧ Hid (w3.grownBy wr (some w1.heap.size))) (fun _ _ i _ => (Num.limbs x).length - (intOf i).toNat)
  case atStart => exact ⟨0, List.replicate ((Num.limbs x).length + (Num.limbs y).length) 0, Nat.zero_le _, rfl, by simp, B3, hide (by rw [List.drop_replicate]; exact Num.nat_replicate _), hide (by rw [Num.nat_replicate]; simp [Num.nat]), hide ⟨rfl, rfl, rfl, Nat.le_refl _, fun _ _ _ => rfl⟩⟩
  case round =>
    obtain ⟨k, Y, hk, rfl, hYl, hB, h0, hN, hg⟩ := hrel
    have hgo := hg.out
    have HZr := hide (HZ3.out.grown hgo HZ3.out.size (fun j e => by cases e; omega))
    have hsz := hgo.size
    have kP0' : wr.cell? ⟨w.heap.size, 0, none⟩ = some (Value.bool n1) := hgo.cell kP0 (by simp; omega)
    have fP0' : wr.frozen? ⟨w.heap.size, 0, none⟩ = false := (grown_frozen hgo (by dsimp only; omega) (by simp; omega)).trans fP0
    have kP1' : wr.cell? ⟨w.heap.size, 1, none⟩ = some (Value.slice a (Num.limbs x).length ca) := hgo.cell kP1 (by simp; omega)
    have fP1' : wr.frozen? ⟨w.heap.size, 1, none⟩ = false := (grown_frozen hgo (by dsimp only; omega) (by simp; omega)).trans fP1
    have kQ0' : wr.cell? ⟨w.heap.size + 1, 0, none⟩ = some (Value.bool n2) := hgo.cell kQ0 (by simp; omega)
    have fQ0' : wr.frozen? ⟨w.heap.size + 1, 0, none⟩ = false := (grown_frozen hgo (by dsimp only; omega) (by simp; omega)).trans fQ0
    have kQ1' : wr.cell? ⟨w.heap.size + 1, 1, none⟩ = some (Value.slice b (Num.limbs y).length cb) := hgo.cell kQ1 (by simp; omega)
    have fQ1' : wr.frozen? ⟨w.heap.size + 1, 1, none⟩ = false := (grown_frozen hgo (by dsimp only; omega) (by simp; omega)).trans fQ1
    have kR0' : wr.cell? ⟨w.heap.size + 1 + 1, 0, none⟩ = some (Value.bool false) := hgo.cell kR0 (by simp; omega)
    have fR0' : wr.frozen? ⟨w.heap.size + 1 + 1, 0, none⟩ = false := (grown_frozen hgo (by dsimp only; omega) (by simp; omega)).trans fR0
    have kR1' : wr.cell? ⟨w.heap.size + 1 + 1, 1, none⟩ = some (Value.slice none 0 0) := hgo.cell kR1 (by simp; omega)
    have fR1' : wr.frozen? ⟨w.heap.size + 1 + 1, 1, none⟩ = false := (grown_frozen hgo (by dsimp only; omega) (by simp; omega)).trans fR1
    by_cases hlt : k < (Num.limbs x).length
    · have hlt' : (k : Int) < ((Num.limbs x).length : Int) := by omega
      obtain ⟨ga, oa, rfl, hga, hca2⟩ := seg_cell (HA.out.below HZr.out) k hlt
      have hsm := Num.small_at (Num.limbs_small x) hlt
      have HPS := hide (fun zs c hT => prod_step (c := c) (zs := zs) hlt hYl h0.out hN.out hT)
      generalize (Num.limbs x)[k] = f at *
      have hle : (k : Int) ≤ ((Num.limbs x).length : Int) + ((Num.limbs y).length : Int) := by omega
      have hk0 : (0 : Int) ≤ (k : Int) := by omega
      have hnk : ¬ (Num.limbs x).length + (Num.limbs y).length = k := by omega
      clear hgo kP0 kP1 kQ0 kQ1 kR0 kR1 fP0 fP1 fQ0 fQ1 fR0 fR1 h0 hN
      go_wp2_with fail
      go_region_held3 (fun w' => w'.cell? ⟨w.heap.size + 1, 0, none⟩ = some (Value.bool n2) ∧ w'.cell? ⟨w.heap.size + 1, 1, none⟩ = some (Value.slice b (Num.limbs y).length cb))
        (first | exact ⟨kQ0', kQ1'⟩ | exact ⟨hg5.cell kQ0' (by simp; omega), hg5.cell kQ1' (by simp; omega)⟩)
        (first
          | (go_at_call 85; refine (timesI f w1.heap.size k _ _ Y b (Num.limbs y).length cb (Num.limbs y) _ hsm (hB.out.below (bl_refl wr).drew) (by omega) (Nat.le_refl _) (by omega) (by omega) (HBB.out.below HZr.out.drew) (fun hp gb ob s e => by have := seg_low HBB.out hp e; omega)).mono ?_; rintro e w5 ⟨zs, c, hT, rfl, hB5, hg5⟩))
      have HN5 := hide (HPS.out zs c hT)
      have HB5 := hide hB5
      have HG5 : Hid (w3.grownBy w5 (some w1.heap.size)) := hide (grown_trans hg.out ⟨hg5.os, hg5.tape, hg5.output, hg5.size, hg5.block⟩)
      clear hT hB5 hg5 HPS hB hg
      go_wp2
      exact ⟨⟨k + 1, _, by omega, by go_num, HN5.out.1, HB5, hide HN5.out.2.1, hide HN5.out.2.2, HG5⟩, by simp [intOf]; omega⟩
    · obtain rfl : k = (Num.limbs x).length := by omega
      have HV : Hid (mk (!n1 == n2) (Num.nat Y) = mk n1 x * mk n2 y) := hide (by rw [hN.out, List.take_of_length_le (Nat.le_refl _), Num.nat_limbs, Num.nat_limbs, mk_mul])
      have HO := hide (hB.out.own (base := w1.heap.size) (Nat.le_refl _) (by omega))
      rw [hYl] at HO
      have qr := hB.out.lt
      clear hgo kP0 kP1 kQ0 kQ1 kR0 kR1 fP0 fP1 fQ0 fQ1 fR0 fR1 h0 hN hB hg
      go_wp2_with fail
      refine (bigOfI (!n1 == n2) _ _ _ Y w1.heap.size _ HO.out (by omega)).mono ?_
      rintro e w6 ⟨v6, rfl, hn6, hb6⟩
      rw [HV.out] at hn6
      obtain ⟨k0, k1, f0, f1⟩ := box_keep (N := w.heap.size + 1 + 1) hb6 (by omega) kR0' kR1' fR0' fR1'
      have HF := hide (fun p r => fin_box (N := w.heap.size + 1 + 1) (x := p) (y := r) hn6 (by omega) (by omega) (bl_trans HZr.out hb6))
      obtain ⟨a6, c6, rfl, ho6⟩ := hn6
      clear hb6 ho6 kP0' kP1' kQ0' kQ1' kR0' kR1' fP0' fP1' fQ0' fQ1' fR0' fR1' HO
      go_wp2
      refine bodyPost_ret (v := .agg #[.bool (sgn (mk n1 x * mk n2 y)), .slice a6 (lms (mk n1 x * mk n2 y)).length c6]) (by simp [results, Try.results60, go_sem, *]) rfl ?_
      exact ⟨_, rfl, HF.out _ _⟩
end Go.Proofs.Ythjapjbiclkhcaa

/- What the walks of laws on two numbers share: what a call in a region that draws its order leaves behind. -/
namespace Go.Proofs.Ythjapjbiclkhcaa
open Go.RowKit
set_option linter.unusedVariables false

theorem Seg.le {W : World} {a : Option Addr} {n cap : Nat} {xs : List Nat} (h : Seg W a n cap xs) : n ≤ 9223372036854775807 := Nat.le_trans h.2.1 h.2.2.1
theorem keep4 {W0 w' : World} {N1 N2 : Nat} {c0 c1 c2 c3 : Value} (k0 : W0.cell? ⟨N1, 0, none⟩ = some c0) (k1 : W0.cell? ⟨N1, 1, none⟩ = some c1) (k2 : W0.cell? ⟨N2, 0, none⟩ = some c2) (k3 : W0.cell? ⟨N2, 1, none⟩ = some c3) (z1 : N1 < W0.heap.size) (z2 : N2 < W0.heap.size) (hb : Below W0.heap.size W0 w') :
    w'.cell? ⟨N1, 0, none⟩ = some c0 ∧ w'.cell? ⟨N1, 1, none⟩ = some c1 ∧ w'.cell? ⟨N2, 0, none⟩ = some c2 ∧ w'.cell? ⟨N2, 1, none⟩ = some c3 ∧ Hid (Below W0.heap.size W0 w') :=
  ⟨(hb.cell (p := ⟨N1, 0, none⟩) z1).trans k0, (hb.cell (p := ⟨N1, 1, none⟩) z1).trans k1, (hb.cell (p := ⟨N2, 0, none⟩) z2).trans k2, (hb.cell (p := ⟨N2, 1, none⟩) z2).trans k3, hb⟩
/-- a number in a box of its own, made behind the world W0 -/
def Res (W0 : World) (N : Nat) (a : Option Addr) (c : Nat) (z : Int) (wc : World) : Prop :=
  W0.heap.size ≤ N ∧ N < wc.heap.size ∧ wc.cell? ⟨N, 0, none⟩ = some (.bool (sgn z)) ∧ wc.cell? ⟨N, 1, none⟩ = some (.slice a (lms z).length c) ∧ Own wc W0.heap.size a (lms z).length c (lms z) ∧ Below W0.heap.size W0 wc
/-- the box was made ahead of the call -/
theorem res_ahead {W0 W1 wX : World} {N : Nat} {v : Value} {z : Int} {a : Option Addr} {c : Nat} (hv : v = .agg #[.bool (sgn z), .slice a (lms z).length c]) (ho : Own wX W1.heap.size a (lms z).length c (lms z)) (hN : W0.heap.size ≤ N) (hN1 : N < W1.heap.size) (h01 : Below W0.heap.size W0 wX) (h1 : W1.heap.size ≤ wX.heap.size)
    (k0 : ∃ u, wX.cell? ⟨N, 0, none⟩ = some u) (k1 : ∃ u, wX.cell? ⟨N, 1, none⟩ = some u) (w01 : W0.heap.size ≤ W1.heap.size) :
    Res W0 N a c z ((wX.setCell ⟨N, 0, none⟩ (.bool (sgn z))).setCell ⟨N, 1, none⟩ (.slice a (lms z).length c)) := by
  obtain ⟨u0, k0⟩ := k0
  obtain ⟨u1, k1⟩ := k1
  refine ⟨hN, by simp; omega, by go_simp, by go_simp, ?_, (h01.setCell (p := ⟨N, 0, none⟩) hN _).setCell (p := ⟨N, 1, none⟩) hN _⟩
  exact ((ho.setCell (p := ⟨N, 0, none⟩) hN1 _).setCell (p := ⟨N, 1, none⟩) hN1 _).mono w01
/-- the box was made behind it -/
theorem res_behind {W0 W1 wX : World} {z : Int} {a : Option Addr} {c : Nat} (ho : Own wX W1.heap.size a (lms z).length c (lms z)) (h01 : Below W0.heap.size W0 wX) (w01 : W0.heap.size ≤ W1.heap.size) :
    Res W0 wX.heap.size a c z (wX.alloc (.cells #[.bool (sgn z), .slice a (lms z).length c] 26)) :=
  ⟨h01.size, by simp only [World.size_alloc]; omega, by go_simp, by go_simp, (ho.below (bl_alloc (bl_refl wX) _)).mono w01, bl_alloc h01 _⟩
theorem opZ_len (f : Int → Int → Int) (n1 : Bool) (xs : List Nat) (n2 : Bool) (ys : List Nat) : (lms (opZ f n1 xs n2 ys)).length ≤ 40 := by
  unfold opZ
  by_cases h : opT f n1 xs n2 ys = true
  · rw [if_pos h]
    unfold opT at h
    simp only [Bool.and_eq_true] at h
    exact Num.limbs_len.2 (of_decide_eq_true h.2)
  · rw [if_neg h, zero_lms]; exact Nat.zero_le _
theorem Seg.grownLow {W0 W W' : World} {a : Option Addr} {n cap : Nat} {xs : List Nat} {r : Option Nat} (h : Seg W a n cap xs) (h0 : Seg W0 a n cap xs) (hg : W.grownBy W' r) (hr : ∀ k, r = some k → W0.heap.size ≤ k) : Seg W' a n cap xs := by
  obtain ⟨h1, h2, h3, h4, h5⟩ := h
  refine ⟨h1, h2, h3, h4, ?_⟩
  rcases h5 with h5 | ⟨g, o, ha, hgl, hc⟩
  · exact .inl h5
  · rcases h0.2.2.2.2 with h6 | ⟨g', o', ha', hg', _⟩
    · exact .inl h6
    · rw [ha] at ha'
      cases ha'
      exact .inr ⟨g, o, ha, Nat.lt_of_lt_of_le hgl hg.size, fun j hj => hg.cell (hc j hj) (fun e => by have := hr g e.symm; omega)⟩
end Go.Proofs.Ythjapjbiclkhcaa

/- The walks of l02Mul, and of both Mul. -/
namespace Go.Proofs.Ythjapjbiclkhcaa
open Go.RowKit
set_option linter.unusedVariables false

set_option maxHeartbeats 4000000 in
set_option maxRecDepth 20000 in
theorem mulS (v1 v2 : Value) (x y : Int) (w : World) (h1 : Is w v1 x) (h2 : Is w v2 y) (l1 : (lms x).length ≤ 500000) (l2 : (lms y).length ≤ 500000) :
    Calls Try.prog 52 #[v1, v2] w fun e w' => ∃ v, e = .returned v ∧ New w' w.heap.size v (x * y) ∧ Below w.heap.size w w' := by
  obtain ⟨a, ca, rfl, ha⟩ := h1
  obtain ⟨b, cb, rfl, hb⟩ := h2
  have HZ := hide (bl_alloc (bl_alloc (bl_alloc (bl_refl w) (Obj.cells #[Value.bool (sgn x), Value.slice a (lms x).length ca] 26)) (Obj.cells #[Value.bool (sgn y), Value.slice b (lms y).length cb] 26)) (Obj.cells #[Value.bool false, Value.slice none 0 0] 26))
  have HA := hide (ha.below HZ.out)
  have HBB := hide (hb.below HZ.out)
  clear ha hb
  have kP0 : (((w.alloc (Obj.cells #[Value.bool (sgn x), Value.slice a (lms x).length ca] 26)).alloc (Obj.cells #[Value.bool (sgn y), Value.slice b (lms y).length cb] 26)).alloc (Obj.cells #[Value.bool false, Value.slice none 0 0] 26)).cell? ⟨w.heap.size, 0, none⟩ = some (Value.bool (sgn x)) := by go_simp
  have kP1 : (((w.alloc (Obj.cells #[Value.bool (sgn x), Value.slice a (lms x).length ca] 26)).alloc (Obj.cells #[Value.bool (sgn y), Value.slice b (lms y).length cb] 26)).alloc (Obj.cells #[Value.bool false, Value.slice none 0 0] 26)).cell? ⟨w.heap.size, 1, none⟩ = some (Value.slice a (lms x).length ca) := by go_simp
  have kQ0 : (((w.alloc (Obj.cells #[Value.bool (sgn x), Value.slice a (lms x).length ca] 26)).alloc (Obj.cells #[Value.bool (sgn y), Value.slice b (lms y).length cb] 26)).alloc (Obj.cells #[Value.bool false, Value.slice none 0 0] 26)).cell? ⟨w.heap.size + 1, 0, none⟩ = some (Value.bool (sgn y)) := by go_simp
  have kQ1 : (((w.alloc (Obj.cells #[Value.bool (sgn x), Value.slice a (lms x).length ca] 26)).alloc (Obj.cells #[Value.bool (sgn y), Value.slice b (lms y).length cb] 26)).alloc (Obj.cells #[Value.bool false, Value.slice none 0 0] 26)).cell? ⟨w.heap.size + 1, 1, none⟩ = some (Value.slice b (lms y).length cb) := by go_simp
  have kR0 : (((w.alloc (Obj.cells #[Value.bool (sgn x), Value.slice a (lms x).length ca] 26)).alloc (Obj.cells #[Value.bool (sgn y), Value.slice b (lms y).length cb] 26)).alloc (Obj.cells #[Value.bool false, Value.slice none 0 0] 26)).cell? ⟨w.heap.size + 1 + 1, 0, none⟩ = some (Value.bool false) := by go_simp
  have kR1 : (((w.alloc (Obj.cells #[Value.bool (sgn x), Value.slice a (lms x).length ca] 26)).alloc (Obj.cells #[Value.bool (sgn y), Value.slice b (lms y).length cb] 26)).alloc (Obj.cells #[Value.bool false, Value.slice none 0 0] 26)).cell? ⟨w.heap.size + 1 + 1, 1, none⟩ = some (Value.slice none 0 0) := by go_simp
  have fR0 : (((w.alloc (Obj.cells #[Value.bool (sgn x), Value.slice a (lms x).length ca] 26)).alloc (Obj.cells #[Value.bool (sgn y), Value.slice b (lms y).length cb] 26)).alloc (Obj.cells #[Value.bool false, Value.slice none 0 0] 26)).frozen? ⟨w.heap.size + 1 + 1, 0, none⟩ = false := by go_simp
  have fR1 : (((w.alloc (Obj.cells #[Value.bool (sgn x), Value.slice a (lms x).length ca] 26)).alloc (Obj.cells #[Value.bool (sgn y), Value.slice b (lms y).length cb] 26)).alloc (Obj.cells #[Value.bool false, Value.slice none 0 0] 26)).frozen? ⟨w.heap.size + 1 + 1, 1, none⟩ = false := by go_simp
  have zR : w.heap.size + 1 + 1 < (((w.alloc (Obj.cells #[Value.bool (sgn x), Value.slice a (lms x).length ca] 26)).alloc (Obj.cells #[Value.bool (sgn y), Value.slice b (lms y).length cb] 26)).alloc (Obj.cells #[Value.bool false, Value.slice none 0 0] 26)).heap.size := by simp only [World.size_alloc]; omega
  have HE : Hid (mk (!sgn x == sgn y) (Num.nat (lms x) * Num.nat (lms y)) = x * y) := hide (by rw [mk_mul, nat_lms, nat_lms, mk_self, mk_self])
  go_enter Try.func52, Try.ntmps52
  go_wp2_with fail
  generalize (((w.alloc (Obj.cells #[Value.bool (sgn x), Value.slice a (lms x).length ca] 26)).alloc (Obj.cells #[Value.bool (sgn y), Value.slice b (lms y).length cb] 26)).alloc (Obj.cells #[Value.bool false, Value.slice none 0 0] 26)) = w1 at *
  go_region_held3 (fun w' => w'.cell? ⟨w.heap.size, 0, none⟩ = some (Value.bool (sgn x)) ∧ w'.cell? ⟨w.heap.size, 1, none⟩ = some (Value.slice a (lms x).length ca) ∧ w'.cell? ⟨w.heap.size + 1, 0, none⟩ = some (Value.bool (sgn y)) ∧ w'.cell? ⟨w.heap.size + 1, 1, none⟩ = some (Value.slice b (lms y).length cb))
    (first
      | exact ⟨kP0, kP1, kQ0, kQ1⟩
      | exact ⟨(hb4.cell (p := ⟨w.heap.size, 0, none⟩) (by dsimp only; omega)).trans kP0, (hb4.cell (p := ⟨w.heap.size, 1, none⟩) (by dsimp only; omega)).trans kP1, (hb4.cell (p := ⟨w.heap.size + 1, 0, none⟩) (by dsimp only; omega)).trans kQ0, (hb4.cell (p := ⟨w.heap.size + 1, 1, none⟩) (by dsimp only; omega)).trans kQ1⟩
      | exact ⟨(hb3.cell (p := ⟨w.heap.size, 0, none⟩) (by dsimp only; omega)).trans kP0, (hb3.cell (p := ⟨w.heap.size, 1, none⟩) (by dsimp only; omega)).trans kP1, (hb3.cell (p := ⟨w.heap.size + 1, 0, none⟩) (by dsimp only; omega)).trans kQ0, (hb3.cell (p := ⟨w.heap.size + 1, 1, none⟩) (by dsimp only; omega)).trans kQ1⟩
      | exact ⟨(cell_two (p := ⟨w.heap.size, 0, none⟩) (by dsimp only; omega)).trans ((hb4.cell (p := ⟨w.heap.size, 0, none⟩) (by dsimp only; omega)).trans kP0), (cell_two (p := ⟨w.heap.size, 1, none⟩) (by dsimp only; omega)).trans ((hb4.cell (p := ⟨w.heap.size, 1, none⟩) (by dsimp only; omega)).trans kP1), (cell_two (p := ⟨w.heap.size + 1, 0, none⟩) (by dsimp only; omega)).trans ((hb4.cell (p := ⟨w.heap.size + 1, 0, none⟩) (by dsimp only; omega)).trans kQ0), (cell_two (p := ⟨w.heap.size + 1, 1, none⟩) (by dsimp only; omega)).trans ((hb4.cell (p := ⟨w.heap.size + 1, 1, none⟩) (by dsimp only; omega)).trans kQ1)⟩)
    (first
      | (go_at_call 80; refine (timesS a b _ _ ca cb (lms x) (lms y) _ (HA.out.below (bl_refl w1).drew) (HBB.out.below (bl_refl w1).drew) l1 l2).mono ?_; rintro e w3 ⟨zs, rfl, ho3, hval, hb3'⟩; have hb3 : Below w1.heap.size w1 w3 := (bl_refl w1).drew.trans hb3')
      | (go_at_call 25; refine (makeS (!sgn x == sgn y) _ _ _ zs _ ho3.seg (by omega)).mono ?_; rintro e w4 ⟨v4, rfl, hn4, hb4'⟩; have hb4 : Below w1.heap.size w1 w4 := bl_trans hb3 hb4'; have kR0' := (hb4.cell (p := ⟨w.heap.size + 1 + 1, 0, none⟩) (by dsimp only; omega)).trans kR0; have kR1' := (hb4.cell (p := ⟨w.heap.size + 1 + 1, 1, none⟩) (by dsimp only; omega)).trans kR1; have fR0' := (hb4.frozen (p := ⟨w.heap.size + 1 + 1, 0, none⟩) (by dsimp only; omega)).trans fR0; have fR1' := (hb4.frozen (p := ⟨w.heap.size + 1 + 1, 1, none⟩) (by dsimp only; omega)).trans fR1; rw [hval, HE.out] at hn4; have HF := hide (fun p r => fin_box (N := w.heap.size + 1 + 1) (x := p) (y := r) hn4 (Nat.lt_of_lt_of_le zR hb3.size) (by omega) (bl_trans HZ.out hb4)); obtain ⟨a4, c4, rfl, ho4⟩ := hn4; clear ho4))
  clear hb3 hb4 hb3' hb4' ho3
  go_wp2
  refine bodyPost_ret (v := .agg #[.bool (sgn (x * y)), .slice a4 (lms (x * y)).length c4]) (by simp [results, Try.results52, go_sem, *]) rfl ?_
  exact ⟨_, rfl, HF.out _ _⟩

def mulZ (x y : Int) : Int := x * y
theorem mulSZ (v1 v2 : Value) (x y : Int) (w : World) (h1 : Is w v1 x) (h2 : Is w v2 y) (hx : x.natAbs < 4294967296 ^ 40) (hy : y.natAbs < 4294967296 ^ 40) :
    Calls Try.prog 52 #[v1, v2] w fun e w' => ∃ v, e = .returned v ∧ New w' w.heap.size v (mulZ x y) ∧ Below w.heap.size w w' := mulS v1 v2 x y w h1 h2 (len40' hx) (len40' hy)
theorem prodZ (v1 v2 : Value) (x y : Int) (w : World) (h1 : Is w v1 x) (h2 : Is w v2 y) (hx : x.natAbs < 4294967296 ^ 40) (hy : y.natAbs < 4294967296 ^ 40) :
    Calls Try.prog 60 #[v1, v2] w fun e w' => ∃ v, e = .returned v ∧ New w' w.heap.size v (mulZ x y) ∧ Below w.heap.size w w' := by
  have := prodI v1 v2 (sgn x) (sgn y) x.natAbs y.natAbs w h1 h2 (len40' hx) (len40' hy)
  rw [mk_self, mk_self] at this
  exact this

end Go.Proofs.Ythjapjbiclkhcaa

/- The walk of l02Digit: the greatest limb by which a list may be multiplied and not be above another. -/
namespace Go.Proofs.Ythjapjbiclkhcaa
open Go.RowKit
set_option linter.unusedVariables false

theorem cmp_le {a b : Int} : (cmpZ a b ≤ 0) ↔ a ≤ b := by
  unfold cmpZ
  by_cases h : a < b
  · simp [h]; omega
  · by_cases h2 : b < a
    · simp [h, h2]
    · simp [h, h2]; omega
theorem mk_false (m : Nat) : mk false m = (m : Int) := rfl
theorem lms_nat (m : Nat) : lms (m : Int) = Num.limbs m := by unfold lms; rw [Int.natAbs_natCast]

set_option maxHeartbeats 8000000 in
set_option maxRecDepth 20000 in
theorem digitS (a b : Option Addr) (n m ca cb A D : Nat) (w : World) (ha : Seg w a n ca (Num.limbs A)) (hb : Seg w b m cb (Num.limbs D)) (hn : n ≤ 400000) (hm : m ≤ 400000) (hD : 0 < D) (hA : A < 4294967296 * D) :
    Calls Try.prog 97 #[.slice a n ca, .slice b m cb] w fun e w' => e = .returned (.int .u32 ((A / D : Nat) : Int)) ∧ Below w.heap.size w w' := by
  obtain rfl := ha.1
  obtain rfl := hb.1
  have HA := hide ha
  have HB := hide hb
  have HAA := hide hA
  clear ha hb hA
  go_enter Try.func97, Try.ntmps97
  go_wp2
  go_loopw [5, 6, 7] (fun lo hi _ wr => ∃ (p q : Nat), lo = .int .u64 p ∧ hi = .int .u64 q ∧ p ≤ q ∧ q ≤ 4294967295 ∧ Hid (D * p ≤ A) ∧ Hid (A < D * (q + 1)) ∧ Hid (Below w.heap.size w wr)) (fun lo hi _ _ => (intOf hi - intOf lo).toNat)
  case atStart => exact ⟨0, 4294967295, rfl, rfl, by omega, by omega, hide (by rw [Nat.mul_zero]; exact Nat.zero_le _), hide (by rw [Nat.mul_comm]; exact HAA.out), hide (bl_refl w)⟩
  case round =>
    obtain ⟨p, q, rfl, rfl, hpq, hq, hlo, hhi, hZ⟩ := hrel
    by_cases hlt : p < q
    · have hlt' : (p : Int) < (q : Int) := by omega
      obtain ⟨mid, hmid⟩ : ∃ mid, (p + q + 1) / 2 = mid := ⟨_, rfl⟩
      have hm1 : p < mid := by omega
      have hm2 : mid ≤ q := by omega
      have hmi : ((p : Int) + (q : Int) + 1) / 2 = (mid : Int) := by omega
      clear hmid
      go_wp2_with fail
      have hsz := hZ.out.size
      have HZa := hide (bl_alloc hZ.out (Obj.cells #[Value.int .u32 (mid : Int)] 56))
      have hone := own_one wr mid (by omega)
      generalize wr.alloc (Obj.cells #[Value.int .u32 (mid : Int)] 56) = wa at *
      refine (timesS b (some ⟨wr.heap.size, 0, none⟩) _ 1 cb 1 (Num.limbs D) [mid] _ (HB.out.below HZa.out) hone.seg (by omega) (by omega)).mono ?_
      rintro e w4 ⟨zs, rfl, ho4, hv4, hb4⟩
      have hv4' : Num.nat zs = D * mid := by rw [hv4, Num.nat_limbs]; simp [Num.nat]
      have HO4 := hide ho4.seg
      have HZ4 := hide (bl_trans HZa.out hb4)
      clear hone hv4 ho4 hb4
      go_wp2_with fail
      refine (makeS false _ _ _ zs _ HO4.out (by omega)).mono ?_
      rintro e w5 ⟨v5, rfl, hn5, hb5⟩
      rw [hv4', mk_false] at hn5
      obtain ⟨a5, c5, rfl, ho5⟩ := hn5
      rw [lms_nat] at ho5 ⊢
      have HO5 := hide ho5.seg
      have HZ5 := hide (bl_trans HZ4.out hb5)
      have hfl := field_limbs (.bool (sgn ((D * mid : Nat) : Int))) (.slice a5 (Num.limbs (D * mid)).length c5) w5 ⟨_, _, _, rfl⟩
      rw [Int.natCast_mul] at hfl
      clear ho5 hb5 HO4 HZ4 HZa
      go_wp2_with fail
      refine (leastS (D * mid) A a5 a _ _ c5 ca _ HO5.out (HA.out.below HZ5.out)).mono ?_
      rintro e w6 ⟨rfl, d6, hw6⟩
      have HZ6 : Hid (Below w.heap.size w w6) := hide (by rw [hw6]; exact below_drewN HZ5.out d6)
      clear hw6 HO5
      by_cases hc : D * mid ≤ A
      · have hcm : cmpZ ((D * mid : Nat) : Int) (A : Int) ≤ 0 := cmp_le.2 (by omega)
        have HLO := hide hc
        clear hc hlo
        generalize cmpZ ((D * mid : Nat) : Int) (A : Int) = r at *
        go_wp2
        exact ⟨⟨mid, q, rfl, rfl, hm2, hq, HLO, hhi, HZ6⟩, by simp [intOf]; omega⟩
      · have hcm : ¬ cmpZ ((D * mid : Nat) : Int) (A : Int) ≤ 0 := fun h => hc (by have := cmp_le.1 h; omega)
        have HHI : Hid (A < D * (mid - 1 + 1)) := hide (by rw [show mid - 1 + 1 = mid by omega]; omega)
        clear hc hhi
        generalize cmpZ ((D * mid : Nat) : Int) (A : Int) = r at *
        go_wp2
        exact ⟨⟨p, mid - 1, rfl, by go_num, by omega, by omega, hlo, HHI, HZ6⟩, by simp [intOf]; omega⟩
    · obtain rfl : p = q := by omega
      have HV : Hid (A / D = p) := hide (by
        have h1 := hlo.out
        have h2 := hhi.out
        exact Nat.div_eq_of_lt_le (by rw [Nat.mul_comm]; exact h1) (by rw [Nat.mul_comm]; exact h2))
      go_wp2
      go_ret
      rw [HV.out]
      exact ⟨rfl, hZ.out⟩
end Go.Proofs.Ythjapjbiclkhcaa
