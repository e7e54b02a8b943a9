/- My texts FpD, FpA, FpL, in this order. -/
import Derived.Test.YtkemplmhemnpbaaGreatDoorDraw
import Derived.Test.YtkemplmhemnpbaaGreatDoorPk28
/- The draws of a part. -/
namespace Go.Proofs.YtkemplmhemnpbaaGreatDoor
open Go.RowKit
set_option linter.unusedVariables false

theorem Only.setNew {B : Nat} {a w : World} (h : Only B a w) {p : Addr} (hp : a.heap.size ≤ p.block) (u : Value) : Only B a (w.setCell p u) :=
  ⟨h.os, h.tape, h.output, by simpa [World.setCell] using h.size, fun k hk hn => (Below.heap_setCell _ _ _ _ (by omega)).trans (h.block k hk hn)⟩
theorem Cur.setOther {B : Nat} {a : Option Addr} {len cap : Nat} {w : World} (h : Cur B a len cap w) {p : Addr} (hp : B < p.block) (u : Value) : Cur B a len cap (w.setCell p u) :=
  h.kept ⟨rfl, rfl, rfl, by simp [World.setCell], fun k hk => Below.heap_setCell _ _ _ _ (by omega)⟩
set_option maxHeartbeats 1000000 in
theorem pickStrD (B : Nat) (a : Option Addr) (len cap : Nat) (w : World) (hc : Cur B a len cap w) (L n : Nat) (P : ByteArray → Prop) (hL : L < w.heap.size) (hLB : L ≠ B) (hn0 : 0 < n) (hn : n ≤ 1000)
    (hl : ∀ j, j < n → ∃ z : ByteArray, P z ∧ w.cell? ⟨L, j, none⟩ = some (.string z)) :
    Calls Tryz.prog 55 #[.pointer (some ⟨B, 0, none⟩), .slice (some ⟨L, 0, none⟩) n n] w fun e w' => ∃ x : ByteArray, P x ∧ e = .returned (.string x) ∧ Cur B a len cap w' ∧ Only B w w' := by
  have HC := hide hc
  have HL := hide hl
  clear hc hl
  go_enter Tryz.func55, Tryz.ntmps55
  go_wp2_with fail
  refine (belowD B a len cap _ HC.out n (by omega)).mono ?_
  rintro e w1 ⟨x, hx, rfl, hc1, ho1⟩
  have hx0 : 0 ≤ x ∧ x < n := by rcases hx with h | h <;> omega
  obtain ⟨hx1, hx2⟩ := hx0
  obtain ⟨k, rfl⟩ := Int.eq_ofNat_of_zero_le hx1
  obtain ⟨z, hz, hcz⟩ := HL.out k (by omega)
  have hcz1 : w1.cell? ⟨L, k, none⟩ = some (.string z) := (ho1.cell (p := ⟨L, k, none⟩) hL hLB).trans hcz
  have HC1 := hide hc1
  have HO1 := hide ho1
  have HZ := hide hz
  clear hc1 ho1 hx hcz hz
  go_wp2
  go_ret
  exact ⟨z, HZ.out, rfl, HC1.out, HO1.out⟩
def Sm (z : Int) : Prop := -100 ≤ z ∧ z ≤ 100
def Sh (s : ByteArray) : Prop := s.size ≤ 20
/-- a list of short texts -/
def Strs (L n : Nat) (w : World) : Prop := ∀ j, j < n → ∃ z : ByteArray, Sh z ∧ w.cell? ⟨L, j, none⟩ = some (.string z)
theorem Strs.only {B L n : Nat} {w w' : World} (h : Strs L n w) (ho : Only B w w') (h1 : L < w.heap.size) (h2 : L ≠ B) : Strs L n w' := fun j hj => by
  obtain ⟨z, hz, hc⟩ := h j hj
  exact ⟨z, hz, (ho.cell (p := ⟨L, j, none⟩) h1 h2).trans hc⟩
theorem Strs.below {L n : Nat} {w w' : World} (h : Strs L n w) (hb : Below w.heap.size w w') (h1 : L < w.heap.size) : Strs L n w' := fun j hj => by
  obtain ⟨z, hz, hc⟩ := h j hj
  exact ⟨z, hz, (hb.cell (p := ⟨L, j, none⟩) h1).trans hc⟩
/-- a small part drawn -/
def PtD (B : Nat) (a : Option Addr) (len cap : Nat) (w w' : World) (e : Ending) : Prop :=
  ∃ s p q, Sh s ∧ Sm p ∧ Sm q ∧ e = .returned (.agg #[.string s, .int .i64 p, .int .i64 q]) ∧ Cur B a len cap w' ∧ Only B w w'

set_option maxHeartbeats 4000000 in
set_option maxRecDepth 20000 in
theorem partD (B : Nat) (a : Option Addr) (len cap : Nat) (w : World) (hc : Cur B a len cap w) (L n : Nat) (hL : L < w.heap.size) (hLB : L ≠ B) (hn0 : 0 < n) (hn : n ≤ 1000) (hl : Strs L n w) :
    Calls Tryz.prog 53 #[.pointer (some ⟨B, 0, none⟩), .slice (some ⟨L, 0, none⟩) n n] w fun e w' => PtD B a len cap w w' e := by
  have hBw := hc.hB
  have HC := hide hc
  have HO := hide (Only.refl B w)
  have HL := hide hl
  clear hc hl
  have yv1 : w.heap.size < (w.alloc (Obj.cells #[Value.string ⟨#[]⟩, Value.int .i64 0, Value.int .i64 0] 26)).heap.size := by simp only [World.size_alloc]; omega
  have kr0 : (w.alloc (Obj.cells #[Value.string ⟨#[]⟩, Value.int .i64 0, Value.int .i64 0] 26)).cell? ⟨w.heap.size, 0, none⟩ = some (Value.string ⟨#[]⟩) := by go_simp
  have fr0 : (w.alloc (Obj.cells #[Value.string ⟨#[]⟩, Value.int .i64 0, Value.int .i64 0] 26)).frozen? ⟨w.heap.size, 0, none⟩ = false := by go_simp
  have kr1 : (w.alloc (Obj.cells #[Value.string ⟨#[]⟩, Value.int .i64 0, Value.int .i64 0] 26)).cell? ⟨w.heap.size, 1, none⟩ = some (Value.int .i64 0) := by go_simp
  have fr1 : (w.alloc (Obj.cells #[Value.string ⟨#[]⟩, Value.int .i64 0, Value.int .i64 0] 26)).frozen? ⟨w.heap.size, 1, none⟩ = false := by go_simp
  have kr2 : (w.alloc (Obj.cells #[Value.string ⟨#[]⟩, Value.int .i64 0, Value.int .i64 0] 26)).cell? ⟨w.heap.size, 2, none⟩ = some (Value.int .i64 0) := by go_simp
  have fr2 : (w.alloc (Obj.cells #[Value.string ⟨#[]⟩, Value.int .i64 0, Value.int .i64 0] 26)).frozen? ⟨w.heap.size, 2, none⟩ = false := by go_simp
  have hbv1 := bl_alloc (bl_refl w) (Obj.cells #[Value.string ⟨#[]⟩, Value.int .i64 0, Value.int .i64 0] 26)
  replace HL := hide (HL.out.below hbv1 (by omega))
  replace HC := hide (HC.out.alloc (Obj.cells #[Value.string ⟨#[]⟩, Value.int .i64 0, Value.int .i64 0] 26))
  replace HO := hide (HO.out.alloc (Obj.cells #[Value.string ⟨#[]⟩, Value.int .i64 0, Value.int .i64 0] 26))
  clear hbv1
  go_enter Tryz.func53, Tryz.ntmps53
  go_wp2_with fail
  generalize (w.alloc (Obj.cells #[Value.string ⟨#[]⟩, Value.int .i64 0, Value.int .i64 0] 26)) = v1 at *
  refine (onceD B a len cap _ HC.out 3 (by omega)).mono ?_
  rintro e v2 ⟨x, rfl, hc, ho⟩
  have yv2 := ho.size
  replace kr0 := (ho.cell (p := ⟨w.heap.size, 0, none⟩) (by dsimp only; omega) (by dsimp only; omega)).trans kr0
  replace fr0 := (ho.frozen (p := ⟨w.heap.size, 0, none⟩) (by dsimp only; omega) (by dsimp only; omega)).trans fr0
  replace kr1 := (ho.cell (p := ⟨w.heap.size, 1, none⟩) (by dsimp only; omega) (by dsimp only; omega)).trans kr1
  replace fr1 := (ho.frozen (p := ⟨w.heap.size, 1, none⟩) (by dsimp only; omega) (by dsimp only; omega)).trans fr1
  replace kr2 := (ho.cell (p := ⟨w.heap.size, 2, none⟩) (by dsimp only; omega) (by dsimp only; omega)).trans kr2
  replace fr2 := (ho.frozen (p := ⟨w.heap.size, 2, none⟩) (by dsimp only; omega) (by dsimp only; omega)).trans fr2
  replace HL := hide (HL.out.only ho (by omega) (by omega))
  replace HO := hide (HO.out.trans ho)
  replace HC := hide hc
  clear ho hc
  cases x with
  | true =>
    go_wp2_with fail
    refine (pickStrD B a len cap _ HC.out L n Sh (by omega) hLB hn0 hn HL.out).mono ?_
    rintro e v3 ⟨t, ht, rfl, hc, ho⟩
    have yv3 := ho.size
    replace kr0 := (ho.cell (p := ⟨w.heap.size, 0, none⟩) (by dsimp only; omega) (by dsimp only; omega)).trans kr0
    replace fr0 := (ho.frozen (p := ⟨w.heap.size, 0, none⟩) (by dsimp only; omega) (by dsimp only; omega)).trans fr0
    replace kr1 := (ho.cell (p := ⟨w.heap.size, 1, none⟩) (by dsimp only; omega) (by dsimp only; omega)).trans kr1
    replace fr1 := (ho.frozen (p := ⟨w.heap.size, 1, none⟩) (by dsimp only; omega) (by dsimp only; omega)).trans fr1
    replace kr2 := (ho.cell (p := ⟨w.heap.size, 2, none⟩) (by dsimp only; omega) (by dsimp only; omega)).trans kr2
    replace fr2 := (ho.frozen (p := ⟨w.heap.size, 2, none⟩) (by dsimp only; omega) (by dsimp only; omega)).trans fr2
    replace HL := hide (HL.out.only ho (by omega) (by omega))
    replace HO := hide (HO.out.trans ho)
    replace HC := hide hc
    clear ho hc
    have HT := hide ht
    clear ht
    go_wp2
    refine bodyPost_ret (v := Value.agg #[Value.string t, Value.int .i64 1, Value.int .i64 1]) (by simp [results, Tryz.results53, go_sem, kr0, kr1, kr2]) rfl ?_
    exact ⟨_, _, _, HT.out, by unfold Sm; omega, by unfold Sm; omega, rfl, ((HC.out.setOther (p := ⟨w.heap.size, 0, none⟩) (by dsimp only; omega) _).setOther (p := ⟨w.heap.size, 1, none⟩) (by dsimp only; omega) _).setOther (p := ⟨w.heap.size, 2, none⟩) (by dsimp only; omega) _, ((HO.out.setNew (p := ⟨w.heap.size, 0, none⟩) (Nat.le_refl _) _).setNew (p := ⟨w.heap.size, 1, none⟩) (Nat.le_refl _) _).setNew (p := ⟨w.heap.size, 2, none⟩) (Nat.le_refl _) _⟩
  | false =>
    go_wp2_with fail
    refine (onceD B a len cap _ HC.out 5 (by omega)).mono ?_
    rintro e v3 ⟨x, rfl, hc, ho⟩
    have yv3 := ho.size
    replace kr0 := (ho.cell (p := ⟨w.heap.size, 0, none⟩) (by dsimp only; omega) (by dsimp only; omega)).trans kr0
    replace fr0 := (ho.frozen (p := ⟨w.heap.size, 0, none⟩) (by dsimp only; omega) (by dsimp only; omega)).trans fr0
    replace kr1 := (ho.cell (p := ⟨w.heap.size, 1, none⟩) (by dsimp only; omega) (by dsimp only; omega)).trans kr1
    replace fr1 := (ho.frozen (p := ⟨w.heap.size, 1, none⟩) (by dsimp only; omega) (by dsimp only; omega)).trans fr1
    replace kr2 := (ho.cell (p := ⟨w.heap.size, 2, none⟩) (by dsimp only; omega) (by dsimp only; omega)).trans kr2
    replace fr2 := (ho.frozen (p := ⟨w.heap.size, 2, none⟩) (by dsimp only; omega) (by dsimp only; omega)).trans fr2
    replace HL := hide (HL.out.only ho (by omega) (by omega))
    replace HO := hide (HO.out.trans ho)
    replace HC := hide hc
    clear ho hc
    cases x with
    | true =>
      go_wp2_with fail
      refine (pickStrD B a len cap _ HC.out L n Sh (by omega) hLB hn0 hn HL.out).mono ?_
      rintro e v4 ⟨t, ht, rfl, hc, ho⟩
      have yv4 := ho.size
      replace kr0 := (ho.cell (p := ⟨w.heap.size, 0, none⟩) (by dsimp only; omega) (by dsimp only; omega)).trans kr0
      replace fr0 := (ho.frozen (p := ⟨w.heap.size, 0, none⟩) (by dsimp only; omega) (by dsimp only; omega)).trans fr0
      replace kr1 := (ho.cell (p := ⟨w.heap.size, 1, none⟩) (by dsimp only; omega) (by dsimp only; omega)).trans kr1
      replace fr1 := (ho.frozen (p := ⟨w.heap.size, 1, none⟩) (by dsimp only; omega) (by dsimp only; omega)).trans fr1
      replace kr2 := (ho.cell (p := ⟨w.heap.size, 2, none⟩) (by dsimp only; omega) (by dsimp only; omega)).trans kr2
      replace fr2 := (ho.frozen (p := ⟨w.heap.size, 2, none⟩) (by dsimp only; omega) (by dsimp only; omega)).trans fr2
      replace HL := hide (HL.out.only ho (by omega) (by omega))
      replace HO := hide (HO.out.trans ho)
      replace HC := hide hc
      clear ho hc
      have HT := hide ht
      clear ht
      have HI := hide (new_ints v4 #[Value.int .i64 1, Value.int .i64 (-1), Value.int .i64 3] 3 Sm (by intro v hv; simp at hv; rcases hv with rfl | rfl | rfl <;> exact ⟨_, by unfold Sm; omega, rfl⟩) 3 (by decide))
      have yv5 : v4.heap.size < (v4.alloc (Obj.cells #[Value.int .i64 1, Value.int .i64 (-1), Value.int .i64 3] 3)).heap.size := by simp only [World.size_alloc]; omega
      have hbv5 := bl_alloc (bl_refl v4) (Obj.cells #[Value.int .i64 1, Value.int .i64 (-1), Value.int .i64 3] 3)
      replace kr0 := (hbv5.cell (p := ⟨w.heap.size, 0, none⟩) (by dsimp only; omega)).trans kr0
      replace fr0 := (hbv5.frozen (p := ⟨w.heap.size, 0, none⟩) (by dsimp only; omega)).trans fr0
      replace kr1 := (hbv5.cell (p := ⟨w.heap.size, 1, none⟩) (by dsimp only; omega)).trans kr1
      replace fr1 := (hbv5.frozen (p := ⟨w.heap.size, 1, none⟩) (by dsimp only; omega)).trans fr1
      replace kr2 := (hbv5.cell (p := ⟨w.heap.size, 2, none⟩) (by dsimp only; omega)).trans kr2
      replace fr2 := (hbv5.frozen (p := ⟨w.heap.size, 2, none⟩) (by dsimp only; omega)).trans fr2
      replace HL := hide (HL.out.below hbv5 (by omega))
      replace HC := hide (HC.out.alloc (Obj.cells #[Value.int .i64 1, Value.int .i64 (-1), Value.int .i64 3] 3))
      replace HO := hide (HO.out.alloc (Obj.cells #[Value.int .i64 1, Value.int .i64 (-1), Value.int .i64 3] 3))
      clear hbv5
      go_wp2_with fail
      generalize (v4.alloc (Obj.cells #[Value.int .i64 1, Value.int .i64 (-1), Value.int .i64 3] 3)) = v5 at *
      refine (pickIntD B a len cap _ HC.out v4.heap.size 3 Sm (by omega) (by omega) (by decide) (by decide) HI.out).mono ?_
      rintro e v6 ⟨z, hz, rfl, hc, ho⟩
      have yv6 := ho.size
      replace kr0 := (ho.cell (p := ⟨w.heap.size, 0, none⟩) (by dsimp only; omega) (by dsimp only; omega)).trans kr0
      replace fr0 := (ho.frozen (p := ⟨w.heap.size, 0, none⟩) (by dsimp only; omega) (by dsimp only; omega)).trans fr0
      replace kr1 := (ho.cell (p := ⟨w.heap.size, 1, none⟩) (by dsimp only; omega) (by dsimp only; omega)).trans kr1
      replace fr1 := (ho.frozen (p := ⟨w.heap.size, 1, none⟩) (by dsimp only; omega) (by dsimp only; omega)).trans fr1
      replace kr2 := (ho.cell (p := ⟨w.heap.size, 2, none⟩) (by dsimp only; omega) (by dsimp only; omega)).trans kr2
      replace fr2 := (ho.frozen (p := ⟨w.heap.size, 2, none⟩) (by dsimp only; omega) (by dsimp only; omega)).trans fr2
      replace HL := hide (HL.out.only ho (by omega) (by omega))
      replace HO := hide (HO.out.trans ho)
      replace HC := hide hc
      clear ho hc
      have HZ := hide hz
      clear hz
      go_wp2
      refine bodyPost_ret (v := Value.agg #[Value.string t, Value.int .i64 z, Value.int .i64 2]) (by simp [results, Tryz.results53, go_sem, kr0, kr1, kr2]) rfl ?_
      exact ⟨_, _, _, HT.out, HZ.out, by unfold Sm; omega, rfl, ((HC.out.setOther (p := ⟨w.heap.size, 0, none⟩) (by dsimp only; omega) _).setOther (p := ⟨w.heap.size, 1, none⟩) (by dsimp only; omega) _).setOther (p := ⟨w.heap.size, 2, none⟩) (by dsimp only; omega) _, ((HO.out.setNew (p := ⟨w.heap.size, 0, none⟩) (Nat.le_refl _) _).setNew (p := ⟨w.heap.size, 1, none⟩) (Nat.le_refl _) _).setNew (p := ⟨w.heap.size, 2, none⟩) (Nat.le_refl _) _⟩
    | false =>
      go_wp2_with fail
      refine (pickStrD B a len cap _ HC.out L n Sh (by omega) hLB hn0 hn HL.out).mono ?_
      rintro e v4 ⟨t, ht, rfl, hc, ho⟩
      have yv4 := ho.size
      replace kr0 := (ho.cell (p := ⟨w.heap.size, 0, none⟩) (by dsimp only; omega) (by dsimp only; omega)).trans kr0
      replace fr0 := (ho.frozen (p := ⟨w.heap.size, 0, none⟩) (by dsimp only; omega) (by dsimp only; omega)).trans fr0
      replace kr1 := (ho.cell (p := ⟨w.heap.size, 1, none⟩) (by dsimp only; omega) (by dsimp only; omega)).trans kr1
      replace fr1 := (ho.frozen (p := ⟨w.heap.size, 1, none⟩) (by dsimp only; omega) (by dsimp only; omega)).trans fr1
      replace kr2 := (ho.cell (p := ⟨w.heap.size, 2, none⟩) (by dsimp only; omega) (by dsimp only; omega)).trans kr2
      replace fr2 := (ho.frozen (p := ⟨w.heap.size, 2, none⟩) (by dsimp only; omega) (by dsimp only; omega)).trans fr2
      replace HL := hide (HL.out.only ho (by omega) (by omega))
      replace HO := hide (HO.out.trans ho)
      replace HC := hide hc
      clear ho hc
      have HT := hide ht
      clear ht
      have HI := hide (new_ints v4 #[Value.int .i64 2, Value.int .i64 (-1), Value.int .i64 (-2), Value.int .i64 3, Value.int .i64 0] 3 Sm (by intro v hv; simp at hv; rcases hv with rfl | rfl | rfl | rfl | rfl <;> exact ⟨_, by unfold Sm; omega, rfl⟩) 5 (by decide))
      have yv5 : v4.heap.size < (v4.alloc (Obj.cells #[Value.int .i64 2, Value.int .i64 (-1), Value.int .i64 (-2), Value.int .i64 3, Value.int .i64 0] 3)).heap.size := by simp only [World.size_alloc]; omega
      have hbv5 := bl_alloc (bl_refl v4) (Obj.cells #[Value.int .i64 2, Value.int .i64 (-1), Value.int .i64 (-2), Value.int .i64 3, Value.int .i64 0] 3)
      replace kr0 := (hbv5.cell (p := ⟨w.heap.size, 0, none⟩) (by dsimp only; omega)).trans kr0
      replace fr0 := (hbv5.frozen (p := ⟨w.heap.size, 0, none⟩) (by dsimp only; omega)).trans fr0
      replace kr1 := (hbv5.cell (p := ⟨w.heap.size, 1, none⟩) (by dsimp only; omega)).trans kr1
      replace fr1 := (hbv5.frozen (p := ⟨w.heap.size, 1, none⟩) (by dsimp only; omega)).trans fr1
      replace kr2 := (hbv5.cell (p := ⟨w.heap.size, 2, none⟩) (by dsimp only; omega)).trans kr2
      replace fr2 := (hbv5.frozen (p := ⟨w.heap.size, 2, none⟩) (by dsimp only; omega)).trans fr2
      replace HL := hide (HL.out.below hbv5 (by omega))
      replace HC := hide (HC.out.alloc (Obj.cells #[Value.int .i64 2, Value.int .i64 (-1), Value.int .i64 (-2), Value.int .i64 3, Value.int .i64 0] 3))
      replace HO := hide (HO.out.alloc (Obj.cells #[Value.int .i64 2, Value.int .i64 (-1), Value.int .i64 (-2), Value.int .i64 3, Value.int .i64 0] 3))
      clear hbv5
      go_wp2_with fail
      generalize (v4.alloc (Obj.cells #[Value.int .i64 2, Value.int .i64 (-1), Value.int .i64 (-2), Value.int .i64 3, Value.int .i64 0] 3)) = v5 at *
      refine (pickIntD B a len cap _ HC.out v4.heap.size 5 Sm (by omega) (by omega) (by decide) (by decide) HI.out).mono ?_
      rintro e v6 ⟨z, hz, rfl, hc, ho⟩
      have yv6 := ho.size
      replace kr0 := (ho.cell (p := ⟨w.heap.size, 0, none⟩) (by dsimp only; omega) (by dsimp only; omega)).trans kr0
      replace fr0 := (ho.frozen (p := ⟨w.heap.size, 0, none⟩) (by dsimp only; omega) (by dsimp only; omega)).trans fr0
      replace kr1 := (ho.cell (p := ⟨w.heap.size, 1, none⟩) (by dsimp only; omega) (by dsimp only; omega)).trans kr1
      replace fr1 := (ho.frozen (p := ⟨w.heap.size, 1, none⟩) (by dsimp only; omega) (by dsimp only; omega)).trans fr1
      replace kr2 := (ho.cell (p := ⟨w.heap.size, 2, none⟩) (by dsimp only; omega) (by dsimp only; omega)).trans kr2
      replace fr2 := (ho.frozen (p := ⟨w.heap.size, 2, none⟩) (by dsimp only; omega) (by dsimp only; omega)).trans fr2
      replace HL := hide (HL.out.only ho (by omega) (by omega))
      replace HO := hide (HO.out.trans ho)
      replace HC := hide hc
      clear ho hc
      have HZ := hide hz
      clear hz
      go_wp2
      refine bodyPost_ret (v := Value.agg #[Value.string t, Value.int .i64 z, Value.int .i64 1]) (by simp [results, Tryz.results53, go_sem, kr0, kr1, kr2]) rfl ?_
      exact ⟨_, _, _, HT.out, HZ.out, by unfold Sm; omega, rfl, ((HC.out.setOther (p := ⟨w.heap.size, 0, none⟩) (by dsimp only; omega) _).setOther (p := ⟨w.heap.size, 1, none⟩) (by dsimp only; omega) _).setOther (p := ⟨w.heap.size, 2, none⟩) (by dsimp only; omega) _, ((HO.out.setNew (p := ⟨w.heap.size, 0, none⟩) (Nat.le_refl _) _).setNew (p := ⟨w.heap.size, 1, none⟩) (Nat.le_refl _) _).setNew (p := ⟨w.heap.size, 2, none⟩) (Nat.le_refl _) _⟩

end Go.Proofs.YtkemplmhemnpbaaGreatDoor

/- The draws of a part: any part, from a row of bytes. -/
namespace Go.Proofs.YtkemplmhemnpbaaGreatDoor
open Go.RowKit
set_option linter.unusedVariables false

theorem Row.bel {a : Option Addr} {len cap : Nat} {w w' : World} (h : Row a len cap w) (hb : Below w.heap.size w w') : Row a len cap w' := by
  obtain ⟨h1, h2, h3⟩ := h
  refine ⟨?_, h2, h3⟩
  rcases h1 with h | ⟨b, off, rfl, hb', hc⟩
  · exact .inl h
  · exact .inr ⟨b, off, rfl, Nat.lt_of_lt_of_le hb' hb.size, fun j hj => by
      obtain ⟨z, hz, hcz⟩ := hc j hj
      exact ⟨z, hz, (hb.cell (p := ⟨b, off + j, none⟩) hb').trans hcz⟩⟩

set_option maxHeartbeats 4000000 in
set_option maxRecDepth 20000 in
theorem anyPartD (B : Nat) (a : Option Addr) (len cap : Nat) (w : World) (hc : Cur B a len cap w) :
    Calls Tryz.prog 28 #[.pointer (some ⟨B, 0, none⟩)] w fun e w' => PtD B a len cap w w' e := by
  have hBw := hc.hB
  have HC := hide hc
  have HO := hide (Only.refl B w)
  clear hc
  have kr0 : ((w.alloc (Obj.cells #[Value.string ⟨#[]⟩, Value.int .i64 0, Value.int .i64 0] 26)).alloc (Obj.cells #[Value.string ⟨#[109]⟩, Value.string ⟨#[115]⟩, Value.string ⟨#[107, 103]⟩, Value.string ⟨#[107, 109]⟩] 9)).cell? ⟨w.heap.size, 0, none⟩ = some (Value.string ⟨#[]⟩) := by go_simp
  have fr0 : ((w.alloc (Obj.cells #[Value.string ⟨#[]⟩, Value.int .i64 0, Value.int .i64 0] 26)).alloc (Obj.cells #[Value.string ⟨#[109]⟩, Value.string ⟨#[115]⟩, Value.string ⟨#[107, 103]⟩, Value.string ⟨#[107, 109]⟩] 9)).frozen? ⟨w.heap.size, 0, none⟩ = false := by go_simp
  have kr1 : ((w.alloc (Obj.cells #[Value.string ⟨#[]⟩, Value.int .i64 0, Value.int .i64 0] 26)).alloc (Obj.cells #[Value.string ⟨#[109]⟩, Value.string ⟨#[115]⟩, Value.string ⟨#[107, 103]⟩, Value.string ⟨#[107, 109]⟩] 9)).cell? ⟨w.heap.size, 1, none⟩ = some (Value.int .i64 0) := by go_simp
  have fr1 : ((w.alloc (Obj.cells #[Value.string ⟨#[]⟩, Value.int .i64 0, Value.int .i64 0] 26)).alloc (Obj.cells #[Value.string ⟨#[109]⟩, Value.string ⟨#[115]⟩, Value.string ⟨#[107, 103]⟩, Value.string ⟨#[107, 109]⟩] 9)).frozen? ⟨w.heap.size, 1, none⟩ = false := by go_simp
  have kr2 : ((w.alloc (Obj.cells #[Value.string ⟨#[]⟩, Value.int .i64 0, Value.int .i64 0] 26)).alloc (Obj.cells #[Value.string ⟨#[109]⟩, Value.string ⟨#[115]⟩, Value.string ⟨#[107, 103]⟩, Value.string ⟨#[107, 109]⟩] 9)).cell? ⟨w.heap.size, 2, none⟩ = some (Value.int .i64 0) := by go_simp
  have fr2 : ((w.alloc (Obj.cells #[Value.string ⟨#[]⟩, Value.int .i64 0, Value.int .i64 0] 26)).alloc (Obj.cells #[Value.string ⟨#[109]⟩, Value.string ⟨#[115]⟩, Value.string ⟨#[107, 103]⟩, Value.string ⟨#[107, 109]⟩] 9)).frozen? ⟨w.heap.size, 2, none⟩ = false := by go_simp
  have yv1 : w.heap.size + 1 < ((w.alloc (Obj.cells #[Value.string ⟨#[]⟩, Value.int .i64 0, Value.int .i64 0] 26)).alloc (Obj.cells #[Value.string ⟨#[109]⟩, Value.string ⟨#[115]⟩, Value.string ⟨#[107, 103]⟩, Value.string ⟨#[107, 109]⟩] 9)).heap.size := by simp only [World.size_alloc]; omega
  have HL : Hid (Strs (w.heap.size + 1) 4 ((w.alloc (Obj.cells #[Value.string ⟨#[]⟩, Value.int .i64 0, Value.int .i64 0] 26)).alloc (Obj.cells #[Value.string ⟨#[109]⟩, Value.string ⟨#[115]⟩, Value.string ⟨#[107, 103]⟩, Value.string ⟨#[107, 109]⟩] 9))) := hide (by have h := new_strs (w.alloc (Obj.cells #[Value.string ⟨#[]⟩, Value.int .i64 0, Value.int .i64 0] 26)) #[Value.string ⟨#[109]⟩, Value.string ⟨#[115]⟩, Value.string ⟨#[107, 103]⟩, Value.string ⟨#[107, 109]⟩] 9 Sh (by intro v hv; simp at hv; rcases hv with rfl | rfl | rfl | rfl <;> exact ⟨_, by unfold Sh; decide, rfl⟩) 4 (by decide); rw [show (w.alloc (Obj.cells #[Value.string ⟨#[]⟩, Value.int .i64 0, Value.int .i64 0] 26)).heap.size = w.heap.size + 1 from by simp] at h; exact h)
  replace HC := hide ((HC.out.alloc (Obj.cells #[Value.string ⟨#[]⟩, Value.int .i64 0, Value.int .i64 0] 26)).alloc (Obj.cells #[Value.string ⟨#[109]⟩, Value.string ⟨#[115]⟩, Value.string ⟨#[107, 103]⟩, Value.string ⟨#[107, 109]⟩] 9))
  replace HO := hide ((HO.out.alloc (Obj.cells #[Value.string ⟨#[]⟩, Value.int .i64 0, Value.int .i64 0] 26)).alloc (Obj.cells #[Value.string ⟨#[109]⟩, Value.string ⟨#[115]⟩, Value.string ⟨#[107, 103]⟩, Value.string ⟨#[107, 109]⟩] 9))
  go_enter Tryz.func28, Tryz.ntmps28
  go_wp2_with fail
  generalize ((w.alloc (Obj.cells #[Value.string ⟨#[]⟩, Value.int .i64 0, Value.int .i64 0] 26)).alloc (Obj.cells #[Value.string ⟨#[109]⟩, Value.string ⟨#[115]⟩, Value.string ⟨#[107, 103]⟩, Value.string ⟨#[107, 109]⟩] 9)) = v1 at *
  refine (partD B a len cap _ HC.out (w.heap.size + 1) 4 (by omega) (by omega) (by decide) (by decide) HL.out).mono ?_
  rintro e v2 ⟨t, p, q, ht, hp, hq, rfl, hc, ho⟩
  have yv2 := ho.size
  replace kr0 := (ho.cell (p := ⟨w.heap.size, 0, none⟩) (by dsimp only; omega) (by dsimp only; omega)).trans kr0
  replace fr0 := (ho.frozen (p := ⟨w.heap.size, 0, none⟩) (by dsimp only; omega) (by dsimp only; omega)).trans fr0
  replace kr1 := (ho.cell (p := ⟨w.heap.size, 1, none⟩) (by dsimp only; omega) (by dsimp only; omega)).trans kr1
  replace fr1 := (ho.frozen (p := ⟨w.heap.size, 1, none⟩) (by dsimp only; omega) (by dsimp only; omega)).trans fr1
  replace kr2 := (ho.cell (p := ⟨w.heap.size, 2, none⟩) (by dsimp only; omega) (by dsimp only; omega)).trans kr2
  replace fr2 := (ho.frozen (p := ⟨w.heap.size, 2, none⟩) (by dsimp only; omega) (by dsimp only; omega)).trans fr2
  replace HO := hide (HO.out.trans ho)
  replace HC := hide hc
  clear ho hc
  clear HL
  have HT := hide ht
  have HP := hide hp
  have HQ := hide hq
  clear ht hp hq
  have yv3 : v2.heap.size < (v2.alloc (Obj.cells #[Value.string t, Value.int .i64 p, Value.int .i64 q] 26)).heap.size := by simp only [World.size_alloc]; omega
  have kp0 : (v2.alloc (Obj.cells #[Value.string t, Value.int .i64 p, Value.int .i64 q] 26)).cell? ⟨v2.heap.size, 0, none⟩ = some (Value.string t) := by go_simp
  have fp0 : (v2.alloc (Obj.cells #[Value.string t, Value.int .i64 p, Value.int .i64 q] 26)).frozen? ⟨v2.heap.size, 0, none⟩ = false := by go_simp
  have kp1 : (v2.alloc (Obj.cells #[Value.string t, Value.int .i64 p, Value.int .i64 q] 26)).cell? ⟨v2.heap.size, 1, none⟩ = some (Value.int .i64 p) := by go_simp
  have fp1 : (v2.alloc (Obj.cells #[Value.string t, Value.int .i64 p, Value.int .i64 q] 26)).frozen? ⟨v2.heap.size, 1, none⟩ = false := by go_simp
  have kp2 : (v2.alloc (Obj.cells #[Value.string t, Value.int .i64 p, Value.int .i64 q] 26)).cell? ⟨v2.heap.size, 2, none⟩ = some (Value.int .i64 q) := by go_simp
  have fp2 : (v2.alloc (Obj.cells #[Value.string t, Value.int .i64 p, Value.int .i64 q] 26)).frozen? ⟨v2.heap.size, 2, none⟩ = false := by go_simp
  have hbv3 := bl_alloc (bl_refl v2) (Obj.cells #[Value.string t, Value.int .i64 p, Value.int .i64 q] 26)
  replace kr0 := (hbv3.cell (p := ⟨w.heap.size, 0, none⟩) (by dsimp only; omega)).trans kr0
  replace fr0 := (hbv3.frozen (p := ⟨w.heap.size, 0, none⟩) (by dsimp only; omega)).trans fr0
  replace kr1 := (hbv3.cell (p := ⟨w.heap.size, 1, none⟩) (by dsimp only; omega)).trans kr1
  replace fr1 := (hbv3.frozen (p := ⟨w.heap.size, 1, none⟩) (by dsimp only; omega)).trans fr1
  replace kr2 := (hbv3.cell (p := ⟨w.heap.size, 2, none⟩) (by dsimp only; omega)).trans kr2
  replace fr2 := (hbv3.frozen (p := ⟨w.heap.size, 2, none⟩) (by dsimp only; omega)).trans fr2
  replace HC := hide (HC.out.alloc (Obj.cells #[Value.string t, Value.int .i64 p, Value.int .i64 q] 26))
  replace HO := hide (HO.out.alloc (Obj.cells #[Value.string t, Value.int .i64 p, Value.int .i64 q] 26))
  clear hbv3
  go_wp2_with fail
  generalize (v2.alloc (Obj.cells #[Value.string t, Value.int .i64 p, Value.int .i64 q] 26)) = v3 at *
  refine (belowD B a len cap _ HC.out 12 (by omega)).mono ?_
  rintro e v4 ⟨x, hx, rfl, hc, ho⟩
  have yv4 := ho.size
  replace kr0 := (ho.cell (p := ⟨w.heap.size, 0, none⟩) (by dsimp only; omega) (by dsimp only; omega)).trans kr0
  replace fr0 := (ho.frozen (p := ⟨w.heap.size, 0, none⟩) (by dsimp only; omega) (by dsimp only; omega)).trans fr0
  replace kr1 := (ho.cell (p := ⟨w.heap.size, 1, none⟩) (by dsimp only; omega) (by dsimp only; omega)).trans kr1
  replace fr1 := (ho.frozen (p := ⟨w.heap.size, 1, none⟩) (by dsimp only; omega) (by dsimp only; omega)).trans fr1
  replace kr2 := (ho.cell (p := ⟨w.heap.size, 2, none⟩) (by dsimp only; omega) (by dsimp only; omega)).trans kr2
  replace fr2 := (ho.frozen (p := ⟨w.heap.size, 2, none⟩) (by dsimp only; omega) (by dsimp only; omega)).trans fr2
  replace kp0 := (ho.cell (p := ⟨v2.heap.size, 0, none⟩) (by dsimp only; omega) (by dsimp only; omega)).trans kp0
  replace fp0 := (ho.frozen (p := ⟨v2.heap.size, 0, none⟩) (by dsimp only; omega) (by dsimp only; omega)).trans fp0
  replace kp1 := (ho.cell (p := ⟨v2.heap.size, 1, none⟩) (by dsimp only; omega) (by dsimp only; omega)).trans kp1
  replace fp1 := (ho.frozen (p := ⟨v2.heap.size, 1, none⟩) (by dsimp only; omega) (by dsimp only; omega)).trans fp1
  replace kp2 := (ho.cell (p := ⟨v2.heap.size, 2, none⟩) (by dsimp only; omega) (by dsimp only; omega)).trans kp2
  replace fp2 := (ho.frozen (p := ⟨v2.heap.size, 2, none⟩) (by dsimp only; omega) (by dsimp only; omega)).trans fp2
  replace HO := hide (HO.out.trans ho)
  replace HC := hide hc
  clear ho hc
  have hx0 : 0 ≤ x ∧ x < 12 := by rcases hx with h | h <;> omega
  clear hx
  by_cases h0 : x = 0
  · skip
    subst h0
    clear hx0
    go_wp2_with fail
    refine (belowD B a len cap _ HC.out 30 (by omega)).mono ?_
    rintro e v5 ⟨z, hz, rfl, hc, ho⟩
    have yv5 := ho.size
    replace kr0 := (ho.cell (p := ⟨w.heap.size, 0, none⟩) (by dsimp only; omega) (by dsimp only; omega)).trans kr0
    replace fr0 := (ho.frozen (p := ⟨w.heap.size, 0, none⟩) (by dsimp only; omega) (by dsimp only; omega)).trans fr0
    replace kr1 := (ho.cell (p := ⟨w.heap.size, 1, none⟩) (by dsimp only; omega) (by dsimp only; omega)).trans kr1
    replace fr1 := (ho.frozen (p := ⟨w.heap.size, 1, none⟩) (by dsimp only; omega) (by dsimp only; omega)).trans fr1
    replace kr2 := (ho.cell (p := ⟨w.heap.size, 2, none⟩) (by dsimp only; omega) (by dsimp only; omega)).trans kr2
    replace fr2 := (ho.frozen (p := ⟨w.heap.size, 2, none⟩) (by dsimp only; omega) (by dsimp only; omega)).trans fr2
    replace kp0 := (ho.cell (p := ⟨v2.heap.size, 0, none⟩) (by dsimp only; omega) (by dsimp only; omega)).trans kp0
    replace fp0 := (ho.frozen (p := ⟨v2.heap.size, 0, none⟩) (by dsimp only; omega) (by dsimp only; omega)).trans fp0
    replace kp1 := (ho.cell (p := ⟨v2.heap.size, 1, none⟩) (by dsimp only; omega) (by dsimp only; omega)).trans kp1
    replace fp1 := (ho.frozen (p := ⟨v2.heap.size, 1, none⟩) (by dsimp only; omega) (by dsimp only; omega)).trans fp1
    replace kp2 := (ho.cell (p := ⟨v2.heap.size, 2, none⟩) (by dsimp only; omega) (by dsimp only; omega)).trans kp2
    replace fp2 := (ho.frozen (p := ⟨v2.heap.size, 2, none⟩) (by dsimp only; omega) (by dsimp only; omega)).trans fp2
    replace HO := hide (HO.out.trans ho)
    replace HC := hide hc
    clear ho hc
    have hz0 : 0 ≤ z ∧ z < 30 := by rcases hz with h | h <;> omega
    clear hz
    go_wp2
    refine bodyPost_ret (v := Value.agg #[Value.string t, Value.int .i64 (z - 15), Value.int .i64 q]) (by simp [results, Tryz.results28, go_sem, kr0, kr1, kr2]) rfl ?_
    exact ⟨_, _, _, HT.out, by unfold Sm; omega, HQ.out, rfl, (((HC.out.setOther (p := ⟨v2.heap.size, 1, none⟩) (by dsimp only; omega) _).setOther (p := ⟨w.heap.size, 0, none⟩) (by dsimp only; omega) _).setOther (p := ⟨w.heap.size, 1, none⟩) (by dsimp only; omega) _).setOther (p := ⟨w.heap.size, 2, none⟩) (by dsimp only; omega) _, (((HO.out.setNew (p := ⟨v2.heap.size, 1, none⟩) (by dsimp only; omega) _).setNew (p := ⟨w.heap.size, 0, none⟩) (Nat.le_refl _) _).setNew (p := ⟨w.heap.size, 1, none⟩) (Nat.le_refl _) _).setNew (p := ⟨w.heap.size, 2, none⟩) (Nat.le_refl _) _⟩
  by_cases h1 : x = 1
  · skip
    subst h1
    clear h0
    clear hx0
    go_wp2_with fail
    refine (belowD B a len cap _ HC.out 15 (by omega)).mono ?_
    rintro e v5 ⟨z, hz, rfl, hc, ho⟩
    have yv5 := ho.size
    replace kr0 := (ho.cell (p := ⟨w.heap.size, 0, none⟩) (by dsimp only; omega) (by dsimp only; omega)).trans kr0
    replace fr0 := (ho.frozen (p := ⟨w.heap.size, 0, none⟩) (by dsimp only; omega) (by dsimp only; omega)).trans fr0
    replace kr1 := (ho.cell (p := ⟨w.heap.size, 1, none⟩) (by dsimp only; omega) (by dsimp only; omega)).trans kr1
    replace fr1 := (ho.frozen (p := ⟨w.heap.size, 1, none⟩) (by dsimp only; omega) (by dsimp only; omega)).trans fr1
    replace kr2 := (ho.cell (p := ⟨w.heap.size, 2, none⟩) (by dsimp only; omega) (by dsimp only; omega)).trans kr2
    replace fr2 := (ho.frozen (p := ⟨w.heap.size, 2, none⟩) (by dsimp only; omega) (by dsimp only; omega)).trans fr2
    replace kp0 := (ho.cell (p := ⟨v2.heap.size, 0, none⟩) (by dsimp only; omega) (by dsimp only; omega)).trans kp0
    replace fp0 := (ho.frozen (p := ⟨v2.heap.size, 0, none⟩) (by dsimp only; omega) (by dsimp only; omega)).trans fp0
    replace kp1 := (ho.cell (p := ⟨v2.heap.size, 1, none⟩) (by dsimp only; omega) (by dsimp only; omega)).trans kp1
    replace fp1 := (ho.frozen (p := ⟨v2.heap.size, 1, none⟩) (by dsimp only; omega) (by dsimp only; omega)).trans fp1
    replace kp2 := (ho.cell (p := ⟨v2.heap.size, 2, none⟩) (by dsimp only; omega) (by dsimp only; omega)).trans kp2
    replace fp2 := (ho.frozen (p := ⟨v2.heap.size, 2, none⟩) (by dsimp only; omega) (by dsimp only; omega)).trans fp2
    replace HO := hide (HO.out.trans ho)
    replace HC := hide hc
    clear ho hc
    have hz0 : 0 ≤ z ∧ z < 15 := by rcases hz with h | h <;> omega
    clear hz
    go_wp2
    refine bodyPost_ret (v := Value.agg #[Value.string t, Value.int .i64 p, Value.int .i64 (z - 1)]) (by simp [results, Tryz.results28, go_sem, kr0, kr1, kr2]) rfl ?_
    exact ⟨_, _, _, HT.out, HP.out, by unfold Sm; omega, rfl, (((HC.out.setOther (p := ⟨v2.heap.size, 2, none⟩) (by dsimp only; omega) _).setOther (p := ⟨w.heap.size, 0, none⟩) (by dsimp only; omega) _).setOther (p := ⟨w.heap.size, 1, none⟩) (by dsimp only; omega) _).setOther (p := ⟨w.heap.size, 2, none⟩) (by dsimp only; omega) _, (((HO.out.setNew (p := ⟨v2.heap.size, 2, none⟩) (by dsimp only; omega) _).setNew (p := ⟨w.heap.size, 0, none⟩) (Nat.le_refl _) _).setNew (p := ⟨w.heap.size, 1, none⟩) (Nat.le_refl _) _).setNew (p := ⟨w.heap.size, 2, none⟩) (Nat.le_refl _) _⟩
  by_cases h2 : x = 2
  · skip
    subst h2
    clear h0
    clear h1
    clear hx0
    have HL : Hid (Strs v4.heap.size 3 (v4.alloc (Obj.cells #[Value.string ⟨#[]⟩, Value.string ⟨#[49]⟩, Value.string ⟨#[97, 98, 99, 100, 101, 102, 103, 104, 105, 106, 107, 108, 109]⟩] 9))) := hide (new_strs v4 #[Value.string ⟨#[]⟩, Value.string ⟨#[49]⟩, Value.string ⟨#[97, 98, 99, 100, 101, 102, 103, 104, 105, 106, 107, 108, 109]⟩] 9 Sh (by intro v hv; simp at hv; rcases hv with rfl | rfl | rfl <;> exact ⟨_, by unfold Sh; decide, rfl⟩) 3 (by decide))
    have yv5 : v4.heap.size < (v4.alloc (Obj.cells #[Value.string ⟨#[]⟩, Value.string ⟨#[49]⟩, Value.string ⟨#[97, 98, 99, 100, 101, 102, 103, 104, 105, 106, 107, 108, 109]⟩] 9)).heap.size := by simp only [World.size_alloc]; omega
    have hbv5 := bl_alloc (bl_refl v4) (Obj.cells #[Value.string ⟨#[]⟩, Value.string ⟨#[49]⟩, Value.string ⟨#[97, 98, 99, 100, 101, 102, 103, 104, 105, 106, 107, 108, 109]⟩] 9)
    replace kr0 := (hbv5.cell (p := ⟨w.heap.size, 0, none⟩) (by dsimp only; omega)).trans kr0
    replace fr0 := (hbv5.frozen (p := ⟨w.heap.size, 0, none⟩) (by dsimp only; omega)).trans fr0
    replace kr1 := (hbv5.cell (p := ⟨w.heap.size, 1, none⟩) (by dsimp only; omega)).trans kr1
    replace fr1 := (hbv5.frozen (p := ⟨w.heap.size, 1, none⟩) (by dsimp only; omega)).trans fr1
    replace kr2 := (hbv5.cell (p := ⟨w.heap.size, 2, none⟩) (by dsimp only; omega)).trans kr2
    replace fr2 := (hbv5.frozen (p := ⟨w.heap.size, 2, none⟩) (by dsimp only; omega)).trans fr2
    replace kp0 := (hbv5.cell (p := ⟨v2.heap.size, 0, none⟩) (by dsimp only; omega)).trans kp0
    replace fp0 := (hbv5.frozen (p := ⟨v2.heap.size, 0, none⟩) (by dsimp only; omega)).trans fp0
    replace kp1 := (hbv5.cell (p := ⟨v2.heap.size, 1, none⟩) (by dsimp only; omega)).trans kp1
    replace fp1 := (hbv5.frozen (p := ⟨v2.heap.size, 1, none⟩) (by dsimp only; omega)).trans fp1
    replace kp2 := (hbv5.cell (p := ⟨v2.heap.size, 2, none⟩) (by dsimp only; omega)).trans kp2
    replace fp2 := (hbv5.frozen (p := ⟨v2.heap.size, 2, none⟩) (by dsimp only; omega)).trans fp2
    replace HC := hide (HC.out.alloc (Obj.cells #[Value.string ⟨#[]⟩, Value.string ⟨#[49]⟩, Value.string ⟨#[97, 98, 99, 100, 101, 102, 103, 104, 105, 106, 107, 108, 109]⟩] 9))
    replace HO := hide (HO.out.alloc (Obj.cells #[Value.string ⟨#[]⟩, Value.string ⟨#[49]⟩, Value.string ⟨#[97, 98, 99, 100, 101, 102, 103, 104, 105, 106, 107, 108, 109]⟩] 9))
    clear hbv5
    go_wp2_with fail
    generalize (v4.alloc (Obj.cells #[Value.string ⟨#[]⟩, Value.string ⟨#[49]⟩, Value.string ⟨#[97, 98, 99, 100, 101, 102, 103, 104, 105, 106, 107, 108, 109]⟩] 9)) = v5 at *
    refine (pickStrD B a len cap _ HC.out v4.heap.size 3 Sh (by omega) (by omega) (by decide) (by decide) HL.out).mono ?_
    rintro e v6 ⟨z, hz, rfl, hc, ho⟩
    have yv6 := ho.size
    replace kr0 := (ho.cell (p := ⟨w.heap.size, 0, none⟩) (by dsimp only; omega) (by dsimp only; omega)).trans kr0
    replace fr0 := (ho.frozen (p := ⟨w.heap.size, 0, none⟩) (by dsimp only; omega) (by dsimp only; omega)).trans fr0
    replace kr1 := (ho.cell (p := ⟨w.heap.size, 1, none⟩) (by dsimp only; omega) (by dsimp only; omega)).trans kr1
    replace fr1 := (ho.frozen (p := ⟨w.heap.size, 1, none⟩) (by dsimp only; omega) (by dsimp only; omega)).trans fr1
    replace kr2 := (ho.cell (p := ⟨w.heap.size, 2, none⟩) (by dsimp only; omega) (by dsimp only; omega)).trans kr2
    replace fr2 := (ho.frozen (p := ⟨w.heap.size, 2, none⟩) (by dsimp only; omega) (by dsimp only; omega)).trans fr2
    replace kp0 := (ho.cell (p := ⟨v2.heap.size, 0, none⟩) (by dsimp only; omega) (by dsimp only; omega)).trans kp0
    replace fp0 := (ho.frozen (p := ⟨v2.heap.size, 0, none⟩) (by dsimp only; omega) (by dsimp only; omega)).trans fp0
    replace kp1 := (ho.cell (p := ⟨v2.heap.size, 1, none⟩) (by dsimp only; omega) (by dsimp only; omega)).trans kp1
    replace fp1 := (ho.frozen (p := ⟨v2.heap.size, 1, none⟩) (by dsimp only; omega) (by dsimp only; omega)).trans fp1
    replace kp2 := (ho.cell (p := ⟨v2.heap.size, 2, none⟩) (by dsimp only; omega) (by dsimp only; omega)).trans kp2
    replace fp2 := (ho.frozen (p := ⟨v2.heap.size, 2, none⟩) (by dsimp only; omega) (by dsimp only; omega)).trans fp2
    replace HO := hide (HO.out.trans ho)
    replace HC := hide hc
    clear ho hc
    clear HL
    have HZ := hide hz
    clear hz
    go_wp2
    refine bodyPost_ret (v := Value.agg #[Value.string z, Value.int .i64 p, Value.int .i64 q]) (by simp [results, Tryz.results28, go_sem, kr0, kr1, kr2]) rfl ?_
    exact ⟨_, _, _, HZ.out, HP.out, HQ.out, rfl, (((HC.out.setOther (p := ⟨v2.heap.size, 0, none⟩) (by dsimp only; omega) _).setOther (p := ⟨w.heap.size, 0, none⟩) (by dsimp only; omega) _).setOther (p := ⟨w.heap.size, 1, none⟩) (by dsimp only; omega) _).setOther (p := ⟨w.heap.size, 2, none⟩) (by dsimp only; omega) _, (((HO.out.setNew (p := ⟨v2.heap.size, 0, none⟩) (by dsimp only; omega) _).setNew (p := ⟨w.heap.size, 0, none⟩) (Nat.le_refl _) _).setNew (p := ⟨w.heap.size, 1, none⟩) (Nat.le_refl _) _).setNew (p := ⟨w.heap.size, 2, none⟩) (Nat.le_refl _) _⟩
  have e0 : (x == 0) = false := by rw [beq_eq_false_iff_ne]; exact h0
  have e1 : (x == 1) = false := by rw [beq_eq_false_iff_ne]; exact h1
  have e2 : (x == 2) = false := by rw [beq_eq_false_iff_ne]; exact h2
  clear h0 h1 h2 hx0
  go_wp2
  refine bodyPost_ret (v := Value.agg #[Value.string t, Value.int .i64 p, Value.int .i64 q]) (by simp [results, Tryz.results28, go_sem, kr0, kr1, kr2]) rfl ?_
  exact ⟨_, _, _, HT.out, HP.out, HQ.out, rfl, ((HC.out.setOther (p := ⟨w.heap.size, 0, none⟩) (by dsimp only; omega) _).setOther (p := ⟨w.heap.size, 1, none⟩) (by dsimp only; omega) _).setOther (p := ⟨w.heap.size, 2, none⟩) (by dsimp only; omega) _, ((HO.out.setNew (p := ⟨w.heap.size, 0, none⟩) (Nat.le_refl _) _).setNew (p := ⟨w.heap.size, 1, none⟩) (Nat.le_refl _) _).setNew (p := ⟨w.heap.size, 2, none⟩) (Nat.le_refl _) _⟩

set_option maxHeartbeats 4000000 in
set_option maxRecDepth 20000 in
theorem drawPart (a : Option Addr) (len cap : Nat) (w : World) (hr : Row a len cap w) :
    Calls Tryz.prog 14 #[.slice a len cap] w fun e w' => ∃ s p q, Sh s ∧ Sm p ∧ Sm q ∧ e = .returned (.agg #[.string s, .int .i64 p, .int .i64 q]) ∧ Below w.heap.size w w' := by
  have kr0 : (w.alloc (Obj.cells #[Value.string ⟨#[]⟩, Value.int .i64 0, Value.int .i64 0] 26)).cell? ⟨w.heap.size, 0, none⟩ = some (Value.string ⟨#[]⟩) := by go_simp
  have kr1 : (w.alloc (Obj.cells #[Value.string ⟨#[]⟩, Value.int .i64 0, Value.int .i64 0] 26)).cell? ⟨w.heap.size, 1, none⟩ = some (Value.int .i64 0) := by go_simp
  have kr2 : (w.alloc (Obj.cells #[Value.string ⟨#[]⟩, Value.int .i64 0, Value.int .i64 0] 26)).cell? ⟨w.heap.size, 2, none⟩ = some (Value.int .i64 0) := by go_simp
  have fr0 : (w.alloc (Obj.cells #[Value.string ⟨#[]⟩, Value.int .i64 0, Value.int .i64 0] 26)).frozen? ⟨w.heap.size, 0, none⟩ = false := by go_simp
  have fr1 : (w.alloc (Obj.cells #[Value.string ⟨#[]⟩, Value.int .i64 0, Value.int .i64 0] 26)).frozen? ⟨w.heap.size, 1, none⟩ = false := by go_simp
  have fr2 : (w.alloc (Obj.cells #[Value.string ⟨#[]⟩, Value.int .i64 0, Value.int .i64 0] 26)).frozen? ⟨w.heap.size, 2, none⟩ = false := by go_simp
  have y0 : w.heap.size < (w.alloc (Obj.cells #[Value.string ⟨#[]⟩, Value.int .i64 0, Value.int .i64 0] 26)).heap.size := by simp only [World.size_alloc]; omega
  have hb0 := bl_alloc (bl_refl w) (Obj.cells #[Value.string ⟨#[]⟩, Value.int .i64 0, Value.int .i64 0] 26)
  have HR := hide (hr.bel hb0)
  have HB := hide hb0
  clear hr hb0
  go_enter Tryz.func14, Tryz.ntmps14
  go_wp2_with fail
  generalize w.alloc (Obj.cells #[Value.string ⟨#[]⟩, Value.int .i64 0, Value.int .i64 0] 26) = w1 at *
  refine (newD a len cap _ HR.out).mono ?_
  rintro e w2 ⟨rfl, hc, hb⟩
  have y2 := hb.size
  replace kr0 := (hb.cell (p := ⟨w.heap.size, 0, none⟩) y0).trans kr0
  replace kr1 := (hb.cell (p := ⟨w.heap.size, 1, none⟩) y0).trans kr1
  replace kr2 := (hb.cell (p := ⟨w.heap.size, 2, none⟩) y0).trans kr2
  replace fr0 := (hb.frozen (p := ⟨w.heap.size, 0, none⟩) y0).trans fr0
  replace fr1 := (hb.frozen (p := ⟨w.heap.size, 1, none⟩) y0).trans fr1
  replace fr2 := (hb.frozen (p := ⟨w.heap.size, 2, none⟩) y0).trans fr2
  replace HB := hide (bl_trans HB.out hb)
  have HC := hide hc
  clear hb hc
  go_wp2_with fail
  refine (anyPartD w1.heap.size a len cap _ HC.out).mono ?_
  rintro e w3 ⟨s, p, q, hs, hp, hq, rfl, hc, ho⟩
  have y3 := ho.size
  have hb := ho.below (N := w.heap.size) (by omega) (by omega)
  replace kr0 := (ho.cell (p := ⟨w.heap.size, 0, none⟩) (by dsimp only; omega) (by dsimp only; omega)).trans kr0
  replace kr1 := (ho.cell (p := ⟨w.heap.size, 1, none⟩) (by dsimp only; omega) (by dsimp only; omega)).trans kr1
  replace kr2 := (ho.cell (p := ⟨w.heap.size, 2, none⟩) (by dsimp only; omega) (by dsimp only; omega)).trans kr2
  replace fr0 := (ho.frozen (p := ⟨w.heap.size, 0, none⟩) (by dsimp only; omega) (by dsimp only; omega)).trans fr0
  replace fr1 := (ho.frozen (p := ⟨w.heap.size, 1, none⟩) (by dsimp only; omega) (by dsimp only; omega)).trans fr1
  replace fr2 := (ho.frozen (p := ⟨w.heap.size, 2, none⟩) (by dsimp only; omega) (by dsimp only; omega)).trans fr2
  replace HB := hide (HB.out.trans hb)
  have HS := hide hs
  have HP := hide hp
  have HQ := hide hq
  clear hb hc ho hs hp hq HC
  go_wp2
  refine bodyPost_ret (v := Value.agg #[Value.string s, Value.int .i64 p, Value.int .i64 q]) (by simp [results, Tryz.results14, go_sem, kr0, kr1, kr2]) rfl ?_
  exact ⟨_, _, _, HS.out, HP.out, HQ.out, rfl, ((HB.out.setCell (p := ⟨w.heap.size, 0, none⟩) (Nat.le_refl _) _).setCell (p := ⟨w.heap.size, 1, none⟩) (Nat.le_refl _) _).setCell (p := ⟨w.heap.size, 2, none⟩) (Nat.le_refl _) _⟩
end Go.Proofs.YtkemplmhemnpbaaGreatDoor

/- The walk of the law of parts: a part comes back from its text. -/
namespace Go.Proofs.YtkemplmhemnpbaaGreatDoor
open Go.RowKit
set_option linter.unusedVariables false

theorem pt_size {s : ByteArray} {p q : Int} (h : partB s p q = true) : (ptxt s p q).size ≤ 1048576 := by
  have hn := name_short (pb_of h).1
  have hr := rt_small (pb_of h).2
  unfold ptxt
  rw [if_pos h]
  split
  · omega
  · rw [ByteArray.size_append, ByteArray.size_append]
    have : (⟨#[94]⟩ : ByteArray).size = 1 := rfl
    omega
set_option maxHeartbeats 4000000 in
set_option maxRecDepth 20000 in
theorem walkFp (a0 : Option Addr) (len0 cap0 : Nat) (w : World) (hr : Row a0 len0 cap0 w) (htab : Tabs w) (hm : Mx w) :
    Calls Tryz.prog 5 #[.slice a0 len0 cap0] w fun e w' => e = .returned (.bool true) ∧ Below w.heap.size w w' := by
  have HROW := hide hr
  have HT0 := hide htab
  have HM0 := hide hm
  have hcap : len0 ≤ 9223372036854775807 := Nat.le_trans hr.2.1 hr.2.2
  clear hr htab hm
  by_cases hbig : (1048576 : Int) < (len0 : Int)
  · go_enter Tryz.func5, Tryz.ntmps5
    go_wp2
    go_ret
    exact ⟨rfl, Below.refl _ _⟩
  go_enter Tryz.func5, Tryz.ntmps5
  go_wp2_with (first | (go_at_call 13; go_in) | fail)
  refine (drawPart _ _ _ _ HROW.out).mono ?_
  rintro e w1 ⟨s, p, q, hs, hp, hq, rfl, hb⟩
  have HB := hide hb
  have hsz : s.size ≤ 20 := hs
  clear hb hs hp hq HROW
  have yw2 : w1.heap.size + 1 ≤ (w1.alloc (Obj.cells #[Value.string s, Value.int .i64 p, Value.int .i64 q] 26)).heap.size := by simp only [World.size_alloc]; omega
  have kp0 : (w1.alloc (Obj.cells #[Value.string s, Value.int .i64 p, Value.int .i64 q] 26)).cell? ⟨w1.heap.size, 0, none⟩ = some (Value.string s) := by go_simp
  have kp1 : (w1.alloc (Obj.cells #[Value.string s, Value.int .i64 p, Value.int .i64 q] 26)).cell? ⟨w1.heap.size, 1, none⟩ = some (Value.int .i64 p) := by go_simp
  have kp2 : (w1.alloc (Obj.cells #[Value.string s, Value.int .i64 p, Value.int .i64 q] 26)).cell? ⟨w1.heap.size, 2, none⟩ = some (Value.int .i64 q) := by go_simp
  have hbn := (bl_alloc (bl_refl w1) (Obj.cells #[Value.string s, Value.int .i64 p, Value.int .i64 q] 26))
  replace HB := hide (bl_trans HB.out hbn)
  clear hbn
  go_wp2_with fail
  generalize (w1.alloc (Obj.cells #[Value.string s, Value.int .i64 p, Value.int .i64 q] 26)) = w2 at *
  have zr : w1.heap.size < w2.heap.size := by omega
  refine (partTextI s p q _ (by omega) (HT0.out.below HB.out)).mono ?_
  rintro e w3 ⟨rfl, hb⟩
  have yw3 := hb.size
  replace kp0 := (hb.cell (p := ⟨w1.heap.size, 0, none⟩) (by dsimp only; omega)).trans kp0
  replace kp1 := (hb.cell (p := ⟨w1.heap.size, 1, none⟩) (by dsimp only; omega)).trans kp1
  replace kp2 := (hb.cell (p := ⟨w1.heap.size, 2, none⟩) (by dsimp only; omega)).trans kp2
  replace zr := Nat.lt_of_lt_of_le zr hb.size
  replace HB := hide (bl_trans HB.out hb)
  clear hb
  cases hk : partB s p q with
  | false =>
    have HK := hide hk
    rw [pt_no hk]
    clear hk
    go_wp2_with fail
    refine (readPartI ⟨#[]⟩ _ (by decide) (HT0.out.below HB.out) (HM0.out.below HB.out)).mono ?_
    unfold PartAns
    rw [g_empty, if_neg (by decide), if_neg (by decide), if_neg (by decide)]
    rintro e w4 ⟨rfl, hb⟩
    have yw4 := hb.size
    replace kp0 := (hb.cell (p := ⟨w1.heap.size, 0, none⟩) (by dsimp only; omega)).trans kp0
    replace kp1 := (hb.cell (p := ⟨w1.heap.size, 1, none⟩) (by dsimp only; omega)).trans kp1
    replace kp2 := (hb.cell (p := ⟨w1.heap.size, 2, none⟩) (by dsimp only; omega)).trans kp2
    replace zr := Nat.lt_of_lt_of_le zr hb.size
    replace HB := hide (bl_trans HB.out hb)
    clear hb
    have yw5 : w4.heap.size + 1 ≤ (w4.alloc (Obj.cells #[Value.string ⟨#[]⟩, Value.int .i64 0, Value.int .i64 0] 26)).heap.size := by simp only [World.size_alloc]; omega
    have kq0 : (w4.alloc (Obj.cells #[Value.string ⟨#[]⟩, Value.int .i64 0, Value.int .i64 0] 26)).cell? ⟨w4.heap.size, 0, none⟩ = some (Value.string ⟨#[]⟩) := by go_simp
    have kq1 : (w4.alloc (Obj.cells #[Value.string ⟨#[]⟩, Value.int .i64 0, Value.int .i64 0] 26)).cell? ⟨w4.heap.size, 1, none⟩ = some (Value.int .i64 0) := by go_simp
    have kq2 : (w4.alloc (Obj.cells #[Value.string ⟨#[]⟩, Value.int .i64 0, Value.int .i64 0] 26)).cell? ⟨w4.heap.size, 2, none⟩ = some (Value.int .i64 0) := by go_simp
    have hbn := (bl_alloc (bl_refl w4) (Obj.cells #[Value.string ⟨#[]⟩, Value.int .i64 0, Value.int .i64 0] 26))
    replace kp0 := (hbn.cell (p := ⟨w1.heap.size, 0, none⟩) (by dsimp only; omega)).trans kp0
    replace kp1 := (hbn.cell (p := ⟨w1.heap.size, 1, none⟩) (by dsimp only; omega)).trans kp1
    replace kp2 := (hbn.cell (p := ⟨w1.heap.size, 2, none⟩) (by dsimp only; omega)).trans kp2
    replace zr := Nat.lt_of_lt_of_le zr hbn.size
    replace HB := hide (bl_trans HB.out hbn)
    clear hbn
    go_wp2_with fail
    generalize (w4.alloc (Obj.cells #[Value.string ⟨#[]⟩, Value.int .i64 0, Value.int .i64 0] 26)) = w5 at *
    refine (partS s p q _ (by omega)).mono ?_
    rintro e w6 ⟨rfl, hb⟩
    have yw6 := hb.size
    replace kp0 := (hb.cell (p := ⟨w1.heap.size, 0, none⟩) (by dsimp only; omega)).trans kp0
    replace kp1 := (hb.cell (p := ⟨w1.heap.size, 1, none⟩) (by dsimp only; omega)).trans kp1
    replace kp2 := (hb.cell (p := ⟨w1.heap.size, 2, none⟩) (by dsimp only; omega)).trans kp2
    replace kq0 := (hb.cell (p := ⟨w4.heap.size, 0, none⟩) (by dsimp only; omega)).trans kq0
    replace kq1 := (hb.cell (p := ⟨w4.heap.size, 1, none⟩) (by dsimp only; omega)).trans kq1
    replace kq2 := (hb.cell (p := ⟨w4.heap.size, 2, none⟩) (by dsimp only; omega)).trans kq2
    replace zr := Nat.lt_of_lt_of_le zr hb.size
    replace HB := hide (bl_trans HB.out hb)
    clear hb
    rw [HK.out]
    go_wp2
    go_ret
    exact ⟨rfl, HB.out⟩
  | true =>
    have HK := hide hk
    have hts := pt_size hk
    obtain ⟨b1, b2, b3⟩ := back_yes hk
    have b4 := g_back hk
    obtain ⟨t, ht⟩ : ∃ t, ptxt s p q = t := ⟨_, rfl⟩
    rw [ht] at hts b1 b2 b3 b4 ⊢
    have HBK := hide (And.intro b1 (And.intro b2 (And.intro b3 b4)))
    clear hk b1 b2 b3 b4 ht
    go_wp2_with fail
    refine (readPartI t _ (by omega) (HT0.out.below HB.out) (HM0.out.below HB.out)).mono ?_
    unfold PartAns
    rw [HBK.out.2.2.2, if_pos rfl, if_pos rfl, if_pos rfl, HBK.out.1, HBK.out.2.1, HBK.out.2.2.1]
    rintro e w4 ⟨rfl, hb⟩
    have yw4 := hb.size
    replace kp0 := (hb.cell (p := ⟨w1.heap.size, 0, none⟩) (by dsimp only; omega)).trans kp0
    replace kp1 := (hb.cell (p := ⟨w1.heap.size, 1, none⟩) (by dsimp only; omega)).trans kp1
    replace kp2 := (hb.cell (p := ⟨w1.heap.size, 2, none⟩) (by dsimp only; omega)).trans kp2
    replace zr := Nat.lt_of_lt_of_le zr hb.size
    replace HB := hide (bl_trans HB.out hb)
    clear hb
    have yw5 : w4.heap.size + 1 ≤ (w4.alloc (Obj.cells #[Value.string s, Value.int .i64 p, Value.int .i64 q] 26)).heap.size := by simp only [World.size_alloc]; omega
    have kq0 : (w4.alloc (Obj.cells #[Value.string s, Value.int .i64 p, Value.int .i64 q] 26)).cell? ⟨w4.heap.size, 0, none⟩ = some (Value.string s) := by go_simp
    have kq1 : (w4.alloc (Obj.cells #[Value.string s, Value.int .i64 p, Value.int .i64 q] 26)).cell? ⟨w4.heap.size, 1, none⟩ = some (Value.int .i64 p) := by go_simp
    have kq2 : (w4.alloc (Obj.cells #[Value.string s, Value.int .i64 p, Value.int .i64 q] 26)).cell? ⟨w4.heap.size, 2, none⟩ = some (Value.int .i64 q) := by go_simp
    have hbn := (bl_alloc (bl_refl w4) (Obj.cells #[Value.string s, Value.int .i64 p, Value.int .i64 q] 26))
    replace kp0 := (hbn.cell (p := ⟨w1.heap.size, 0, none⟩) (by dsimp only; omega)).trans kp0
    replace kp1 := (hbn.cell (p := ⟨w1.heap.size, 1, none⟩) (by dsimp only; omega)).trans kp1
    replace kp2 := (hbn.cell (p := ⟨w1.heap.size, 2, none⟩) (by dsimp only; omega)).trans kp2
    replace zr := Nat.lt_of_lt_of_le zr hbn.size
    replace HB := hide (bl_trans HB.out hbn)
    clear hbn
    go_wp2_with fail
    generalize (w4.alloc (Obj.cells #[Value.string s, Value.int .i64 p, Value.int .i64 q] 26)) = w5 at *
    refine (partS s p q _ (by omega)).mono ?_
    rintro e w6 ⟨rfl, hb⟩
    have yw6 := hb.size
    replace kp0 := (hb.cell (p := ⟨w1.heap.size, 0, none⟩) (by dsimp only; omega)).trans kp0
    replace kp1 := (hb.cell (p := ⟨w1.heap.size, 1, none⟩) (by dsimp only; omega)).trans kp1
    replace kp2 := (hb.cell (p := ⟨w1.heap.size, 2, none⟩) (by dsimp only; omega)).trans kp2
    replace kq0 := (hb.cell (p := ⟨w4.heap.size, 0, none⟩) (by dsimp only; omega)).trans kq0
    replace kq1 := (hb.cell (p := ⟨w4.heap.size, 1, none⟩) (by dsimp only; omega)).trans kq1
    replace kq2 := (hb.cell (p := ⟨w4.heap.size, 2, none⟩) (by dsimp only; omega)).trans kq2
    replace zr := Nat.lt_of_lt_of_le zr hb.size
    replace HB := hide (bl_trans HB.out hb)
    clear hb
    rw [HK.out]
    go_wp2
    go_ret
    exact ⟨rfl, HB.out⟩

end Go.Proofs.YtkemplmhemnpbaaGreatDoor
