/- The program's MatOf. -/
import Derived.Test.YteljkjpcjjiidaaEi
import Derived.Test.YteljkjpcjjiidaaGo
import Derived.Test.YteljkjpcjjiidaaIo
namespace Go.Proofs.Yteljkjpcjjiidaa
open Go.RowKit
set_option linter.unusedVariables false
set_option maxRecDepth 20000

theorem cat_int {n : Nat} {E : Nat → List Int} (h : IInt n E) : ∀ k, k ≤ n → ∀ y ∈ cat E k, -9223372036854775808 ≤ y ∧ y ≤ 9223372036854775807
  | 0, _, y, hy => by simp [cat] at hy
  | k + 1, hk, y, hy => by
    simp only [cat, List.mem_append] at hy
    rcases hy with hy | hy
    · exact cat_int h k (by omega) y hy
    · exact h k (by omega) y hy
theorem getD_int {xs : List Int} (h : ∀ y ∈ xs, -9223372036854775808 ≤ y ∧ y ≤ 9223372036854775807) (j : Nat) : -9223372036854775808 ≤ xs.getD j 0 ∧ xs.getD j 0 ≤ 9223372036854775807 := by
  by_cases e : j < xs.length
  · have : xs.getD j 0 = xs[j] := by simp [e]
    rw [this]; exact h _ (List.getElem_mem e)
  · have : xs.getD j 0 = 0 := by simp [List.getElem?_eq_none (by omega : xs.length ≤ j)]
    rw [this]; omega

set_option maxHeartbeats 4000000 in
theorem moI_yes (a : Option Addr) (n cap N : Nat) (R C : Int) (xs : List Int) (w : World) (hR : 0 ≤ R ∧ R ≤ 8) (hC : 0 ≤ C ∧ C ≤ 8) (hN : (N : Int) = R * C) (hb : ∀ y ∈ xs, -9223372036854775808 ≤ y ∧ y ≤ 9223372036854775807)
    (hg : ∀ w1, Below w.heap.size w w1 → Calls Try.prog 42 #[.slice a n cap] w1 fun e w' => ∃ x p, e = .returned (.tuple #[.agg #[.int .i64 R, .int .i64 C, .slice x N p], .bool true]) ∧ V.Seg w' x N p xs ∧ Below w1.heap.size w1 w') :
    Calls Try.prog 18 #[.slice a n cap] w fun e w' => ∃ g A, e = .returned (.tuple #[.agg #[.int .i64 R, .int .i64 C, .slice (some ⟨g, 0, none⟩) N N], .bool true]) ∧ BOwn w' w.heap.size g N (fun j => numE (xs.getD j 0)) A ∧ Below w.heap.size w w' := by
  have HN := hide hN
  have HG := hide hg
  clear hg hN
  have X2 : Hid ((w.alloc (Obj.cells #[Value.int .i64 0, Value.int .i64 0, Value.slice none 0 0] 29)).heap[w.heap.size]? = some (.cells #[Value.int .i64 0, Value.int .i64 0, Value.slice none 0 0] 29 (0, 0))) := hide (hnew _ _)
  have HB := hide (bl_alloc (bl_refl w) (Obj.cells #[Value.int .i64 0, Value.int .i64 0, Value.slice none 0 0] 29))
  have hz1 : (w.alloc (Obj.cells #[Value.int .i64 0, Value.int .i64 0, Value.slice none 0 0] 29)).heap.size = w.heap.size + 1 := by simp only [World.size_alloc]
  go_enter Try.func18, Try.ntmps18
  go_wp2_with fail
  generalize w.alloc (Obj.cells #[Value.int .i64 0, Value.int .i64 0, Value.slice none 0 0] 29) = w1 at *
  refine (HG.out w1 HB.out).mono ?_
  rintro e w2 ⟨x, p, rfl, hs, hb2⟩
  have hs2 := hb2.size
  replace X2 := hide (hbel X2.out hb2 (by omega))
  replace HB := hide (bl_trans HB.out hb2)
  have HS := hide (hs.below (bl_alloc (bl_refl w2) (Obj.cells #[Value.int .i64 R, Value.int .i64 C, Value.slice x N p] 63)))
  have X3 : Hid ((w2.alloc (Obj.cells #[Value.int .i64 R, Value.int .i64 C, Value.slice x N p] 63)).heap[w2.heap.size]? = some (.cells #[Value.int .i64 R, Value.int .i64 C, Value.slice x N p] 63 (0, 0))) := hide (hnew _ _)
  replace X2 := hide (hnewer X2.out (Obj.cells #[Value.int .i64 R, Value.int .i64 C, Value.slice x N p] 63))
  replace HB := hide (bl_trans HB.out (bl_alloc (bl_refl w2) (Obj.cells #[Value.int .i64 R, Value.int .i64 C, Value.slice x N p] 63)))
  have hz3 : (w2.alloc (Obj.cells #[Value.int .i64 R, Value.int .i64 C, Value.slice x N p] 63)).heap.size = w2.heap.size + 1 := by simp only [World.size_alloc]
  clear hs hb2 HG
  go_wp2_with fail
  generalize hwx : w2.alloc (Obj.cells #[Value.int .i64 R, Value.int .i64 C, Value.slice x N p] 63) = w3 at *
  clear hwx
  refine (eachInt R C x N p xs w3 HS.out hR hC HN.out (fun j _ => getD_int hb j)).mono ?_
  rintro e w4 ⟨g, A, rfl, ho, hb4⟩
  have HO := hide ho
  replace X2 := hide (hbel X2.out hb4 (by omega))
  replace HB := hide (bl_trans HB.out hb4)
  have hz4 := hb4.size
  have k20 := (Lib.cell_of_heap X2.out 0).trans (show _ = some (Value.int .i64 0) from rfl)
  have k21 := (Lib.cell_of_heap X2.out 1).trans (show _ = some (Value.int .i64 0) from rfl)
  have k22 := (Lib.cell_of_heap X2.out 2).trans (show _ = some (Value.slice none 0 0) from rfl)
  have f20 := Lib.frozen_of_heap X2.out 0
  have f21 := Lib.frozen_of_heap X2.out 1
  have f22 := Lib.frozen_of_heap X2.out 2
  clear ho hb4
  go_wp2
  refine bodyPost_ret (v := .tuple #[.agg #[.int .i64 R, .int .i64 C, .slice (some ⟨g, 0, none⟩) N N], .bool true]) (by simp [results, Try.results18, go_sem, *]) rfl ?_
  have hst := (((St.refl w.heap.size w4).set 0 (.int .i64 R)).set 1 (.int .i64 C)).set 2 (.slice (some ⟨g, 0, none⟩) N N)
  exact ⟨g, A, rfl, (BOwn.st HO.out hst (by omega)).mono (by omega), St.below HB.out hst (Nat.le_refl _)⟩

set_option maxHeartbeats 4000000 in
theorem moI_no (a : Option Addr) (n cap : Nat) (w : World)
    (hg : ∀ w1, Below w.heap.size w w1 → Calls Try.prog 42 #[.slice a n cap] w1 fun e w' => e = .returned (.tuple #[.agg #[.int .i64 0, .int .i64 0, .slice none 0 0], .bool false]) ∧ Below w1.heap.size w1 w') :
    Calls Try.prog 18 #[.slice a n cap] w fun e w' => e = .returned (.tuple #[.agg #[.int .i64 0, .int .i64 0, .slice none 0 0], .bool false]) ∧ Below w.heap.size w w' := by
  have HG := hide hg
  clear hg
  have X2 : Hid ((w.alloc (Obj.cells #[Value.int .i64 0, Value.int .i64 0, Value.slice none 0 0] 29)).heap[w.heap.size]? = some (.cells #[Value.int .i64 0, Value.int .i64 0, Value.slice none 0 0] 29 (0, 0))) := hide (hnew _ _)
  have HB := hide (bl_alloc (bl_refl w) (Obj.cells #[Value.int .i64 0, Value.int .i64 0, Value.slice none 0 0] 29))
  have hz1 : (w.alloc (Obj.cells #[Value.int .i64 0, Value.int .i64 0, Value.slice none 0 0] 29)).heap.size = w.heap.size + 1 := by simp only [World.size_alloc]
  go_enter Try.func18, Try.ntmps18
  go_wp2_with fail
  generalize w.alloc (Obj.cells #[Value.int .i64 0, Value.int .i64 0, Value.slice none 0 0] 29) = w1 at *
  refine (HG.out w1 HB.out).mono ?_
  rintro e w2 ⟨rfl, hb2⟩
  have hs2 := hb2.size
  have Y := (Obj.cells #[Value.int .i64 0, Value.int .i64 0, Value.slice none 0 0] 63)
  replace X2 := hide (hnewer (hbel X2.out hb2 (by omega)) (Obj.cells #[Value.int .i64 0, Value.int .i64 0, Value.slice none 0 0] 63))
  replace HB := hide (bl_alloc (bl_trans HB.out hb2) (Obj.cells #[Value.int .i64 0, Value.int .i64 0, Value.slice none 0 0] 63))
  have hz3 : (w2.alloc (Obj.cells #[Value.int .i64 0, Value.int .i64 0, Value.slice none 0 0] 63)).heap.size = w2.heap.size + 1 := by simp only [World.size_alloc]
  have k20 := (Lib.cell_of_heap X2.out 0).trans (show _ = some (Value.int .i64 0) from rfl)
  have k21 := (Lib.cell_of_heap X2.out 1).trans (show _ = some (Value.int .i64 0) from rfl)
  have k22 := (Lib.cell_of_heap X2.out 2).trans (show _ = some (Value.slice none 0 0) from rfl)
  have f20 := Lib.frozen_of_heap X2.out 0
  have f21 := Lib.frozen_of_heap X2.out 1
  have f22 := Lib.frozen_of_heap X2.out 2
  clear hb2 HG Y
  go_wp2
  refine bodyPost_ret (v := .tuple #[.agg #[.int .i64 0, .int .i64 0, .slice none 0 0], .bool false]) (by simp [results, Try.results18, go_sem, *]) rfl ?_
  have hst := (((St.refl w.heap.size (w2.alloc (Obj.cells #[Value.int .i64 0, Value.int .i64 0, Value.slice none 0 0] 63))).set 0 (.int .i64 0)).set 1 (.int .i64 0)).set 2 (.slice none 0 0)
  exact ⟨rfl, St.below HB.out hst (Nat.le_refl _)⟩

/-- whether MatOf takes them, and what it answers -/
def moB (n : Nat) (E : Nat → List Int) : Bool := decide (n = 0 ∨ (n ≤ 8 ∧ (E 0).length ≤ 8 ∧ ∀ r, r < n → (E r).length = (E 0).length))
theorem moB_iff {n : Nat} {E : Nat → List Int} : moB n E = true ↔ (n = 0 ∨ (n ≤ 8 ∧ (E 0).length ≤ 8 ∧ Rws n E)) := by unfold moB Rws; exact decide_eq_true_iff
def moC (n : Nat) (E : Nat → List Int) : Nat := if moB n E = true ∧ n ≠ 0 then (E 0).length else 0
def moR (n : Nat) (E : Nat → List Int) : Nat := if moB n E = true then n else 0
def moN (n : Nat) (E : Nat → List Int) : Nat := moR n E * moC n E
def moF (n : Nat) (E : Nat → List Int) (j : Nat) : Bool × List Nat := numE ((cat E n).getD j 0)

theorem moIA (a : Option Addr) (n cap : Nat) (X : Nat → Prop) (E : Nat → List Int) (w : World) (hs : ISeg w X a n cap E) (hi : IInt n E) :
    Calls Try.prog 18 #[.slice a n cap] w fun e w' => ∃ v, e = .returned (.tuple #[.agg #[.int .i64 (moR n E : Int), .int .i64 (moC n E : Int), v], .bool (moB n E)]) ∧ GOwn w' w.heap.size w'.heap.size v (moN n E) (moF n E) ∧ Below w.heap.size w w' := by
  by_cases h0 : n = 0
  · subst h0
    have hb : moB 0 E = true := moB_iff.2 (.inl rfl)
    have hC : moC 0 E = 0 := by unfold moC; rw [if_neg (fun h => h.2 rfl)]
    have hR : moR 0 E = 0 := by unfold moR; rw [if_pos hb]
    have hN : moN 0 E = 0 := by unfold moN; rw [hR]; omega
    rw [hb, hC, hR, hN]
    refine (moI_yes a 0 cap 0 0 0 [] w ⟨by omega, by omega⟩ ⟨by omega, by omega⟩ rfl (by simp) (fun w1 hb1 => (gridI0 a cap w1).mono fun e w' ⟨he, hb⟩ => ⟨none, 0, he, ⟨rfl, Nat.le_refl _, by omega, .inl rfl⟩, hb⟩)).mono ?_
    rintro e w' ⟨g, A, he, ho, hb⟩
    exact ⟨_, he, ho.g, hb⟩
  · by_cases h8 : n ≤ 8 ∧ (E 0).length ≤ 8
    · by_cases hr : Rws n E
      · have hb : moB n E = true := moB_iff.2 (.inr ⟨h8.1, h8.2, hr⟩)
        have hC : moC n E = (E 0).length := by unfold moC; rw [if_pos ⟨hb, h0⟩]
        have hR : moR n E = n := by unfold moR; rw [if_pos hb]
        have hN : moN n E = n * (E 0).length := by unfold moN; rw [hR, hC]
        rw [hb, hC, hR, hN]
        refine (moI_yes a n cap (n * (E 0).length) n (E 0).length (cat E n) w ⟨by omega, by omega⟩ ⟨by omega, by omega⟩ (by push_cast; rfl) (cat_int hi n (Nat.le_refl _)) (fun w1 hb1 => (gridIC a n cap (E 0).length _ X E w1 (hs.below hb1) rfl (by omega) h8.1 h8.2 rfl).mono ?_)).mono ?_
        · rintro e w' ⟨h, hb⟩
          rcases h with ⟨g, he, ho, _⟩ | ⟨_, h⟩
          · exact ⟨_, _, he, ho.seg, hb⟩
          · exact absurd hr h
        · rintro e w' ⟨g, A, he, ho, hb⟩
          exact ⟨_, he, ho.g, hb⟩
      · have hb : moB n E = false := by
          cases hx : moB n E with
          | false => rfl
          | true => rcases moB_iff.1 hx with h | h
                    · exact absurd h h0
                    · exact absurd h.2.2 hr
        have hC : moC n E = 0 := by unfold moC; rw [if_neg (fun h => by rw [hb] at h; cases h.1)]
        have hR : moR n E = 0 := by unfold moR; rw [hb]; rfl
        have hN : moN n E = 0 := by unfold moN; rw [hR]; omega
        rw [hb, hC, hR, hN]
        refine (moI_no a n cap w (fun w1 hb1 => (gridIC a n cap (E 0).length _ X E w1 (hs.below hb1) rfl (by omega) h8.1 h8.2 rfl).mono ?_)).mono ?_
        · rintro e w' ⟨h, hb⟩
          rcases h with ⟨g, he, ho, h⟩ | ⟨he, _⟩
          · exact absurd h hr
          · exact ⟨he, hb⟩
        · rintro e w' ⟨he, hb⟩
          exact ⟨_, he, .inl ⟨rfl, rfl⟩, hb⟩
    · have hb : moB n E = false := by
        cases hx : moB n E with
        | false => rfl
        | true => rcases moB_iff.1 hx with h | h
                  · exact absurd h h0
                  · exact absurd ⟨h.1, h.2.1⟩ h8
      have hC : moC n E = 0 := by unfold moC; rw [if_neg (fun h => by rw [hb] at h; cases h.1)]
      have hR : moR n E = 0 := by unfold moR; rw [hb]; rfl
      have hN : moN n E = 0 := by unfold moN; rw [hR]; omega
      rw [hb, hC, hR, hN]
      refine (moI_no a n cap w (fun w1 hb1 => gridIbig a n cap (E 0).length X E w1 (hs.below hb1) rfl (by omega) h8)).mono ?_
      rintro e w' ⟨he, hb⟩
      exact ⟨_, he, .inl ⟨rfl, rfl⟩, hb⟩
end Go.Proofs.Yteljkjpcjjiidaa
