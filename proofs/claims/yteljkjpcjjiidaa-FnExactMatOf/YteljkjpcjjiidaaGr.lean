/- The program's grids: one that is made, a row of it, a copy of a number. -/
import Derived.Test.YteljkjpcjjiidaaMok
import Derived.Test.YteljkjpcjjiidaaTrim2
import Derived.Test.YteljkjpcjjiidaaFrom
namespace Go.Proofs.Yteljkjpcjjiidaa
open Go.RowKit
set_option linter.unusedVariables false
set_option maxRecDepth 20000

def zE : Nat → Bool × List Nat := fun _ => (false, [])
def zA : Nat → Option Addr × Nat := fun _ => (none, 0)

set_option maxHeartbeats 1000000 in
theorem newGridB (R C : Int) (n : Nat) (w : World) (hR : 0 ≤ R ∧ R ≤ 8) (hC : 0 ≤ C ∧ C ≤ 8) (hn : (n : Int) = R * C) :
    Calls Try.prog 75 #[.int .i64 R, .int .i64 C] w fun e w' => ∃ g, e = .returned (.agg #[.int .i64 R, .int .i64 C, .slice (some ⟨g, 0, none⟩) n n]) ∧ BOwn w' w.heap.size g n zE zA ∧ Below w.heap.size w w' := by
  obtain ⟨i0, hi, hz0, hz1, hz2⟩ := info_parts Try.infoBg
  have hp1 : R * C ≤ 64 := by
    have := Int.mul_le_mul hR.2 hC.2 hC.1 (by omega)
    omega
  have hn64 : n ≤ 64 := by omega
  have HN := hide hn
  have hp0 : 0 ≤ R * C := by omega
  clear hn
  go_enter Try.func75, Try.ntmps75
  go_wp2_with (at_make; refine wpList_make_full _ rfl _ _ 27 rfl (w.heap.size + 1) 54 i0 (.agg #[Value.bool false, Value.slice none 0 0]) 2 Try.underlying27 hi hz0 hz1 _ _ _ _ n rfl rfl HN.out.symm HN.out.symm (by rw [hz2]; omega) (by unfold maxLen; omega) (by simp only [World.size_alloc]; omega) ?_)
  intro w1 hown hgrow
  have HO := hide (BOwn.made hown)
  have HB := hide (((bl_alloc (bl_refl w) (Obj.cells #[Value.int .i64 0, Value.int .i64 0, Value.slice none 0 0] 66))).grown hgrow (bl_alloc (bl_refl w) _).size (fun k e => by cases e))
  have X : Hid (w1.heap[w.heap.size]? = some (.cells #[Value.int .i64 0, Value.int .i64 0, Value.slice none 0 0] 66 (0, 0))) := hide ((hgrow.block _ (by simp) (fun e => by cases e)).trans (hnew _ _))
  have hz := hlt X.out
  clear hown hgrow
  have k0 : w1.cell? ⟨w.heap.size, 0, none⟩ = some (Value.int .i64 0) := (Lib.cell_of_heap X.out 0).trans rfl
  have k1 : w1.cell? ⟨w.heap.size, 1, none⟩ = some (Value.int .i64 0) := (Lib.cell_of_heap X.out 1).trans rfl
  have k2 : w1.cell? ⟨w.heap.size, 2, none⟩ = some (Value.slice none 0 0) := (Lib.cell_of_heap X.out 2).trans rfl
  have f0 : w1.frozen? ⟨w.heap.size, 0, none⟩ = false := Lib.frozen_of_heap X.out 0
  have f1 : w1.frozen? ⟨w.heap.size, 1, none⟩ = false := Lib.frozen_of_heap X.out 1
  have f2 : w1.frozen? ⟨w.heap.size, 2, none⟩ = false := Lib.frozen_of_heap X.out 2
  go_wp2
  refine bodyPost_ret (v := .agg #[.int .i64 R, .int .i64 C, .slice (some ⟨w.heap.size + 1, 0, none⟩) n n]) (by simp [results, Try.results75, go_sem, *]) rfl ?_
  have hst := (((St.refl w.heap.size w1).set 0 (.int .i64 R)).set 1 (.int .i64 C)).set 2 (.slice (some ⟨w.heap.size + 1, 0, none⟩) n n)
  have hst2 : Chg (fun k => k = w.heap.size) w1 (((w1.setCell ⟨w.heap.size, 0, none⟩ (.int .i64 R)).setCell ⟨w.heap.size, 1, none⟩ (.int .i64 C)).setCell ⟨w.heap.size, 2, none⟩ (.slice (some ⟨w.heap.size + 1, 0, none⟩) n n)) := Chg.grown hst.grown (fun k e => by cases e; rfl)
  refine ⟨_, rfl, ?_, St.below HB.out hst (Nat.le_refl _)⟩
  exact (HO.out.chg hst2 (fun b hb e => by omega)).mono (by omega)

theorem ret_sl {a : Option Addr} {n m : Nat} (h : n = m) : Ending.returned (.slice a n n) = .returned (.slice a m m) := by rw [h]
/-- where a row lies, if it isn't empty -/
def RowAt (g o : Nat) (c : Nat) (a : Option Addr) : Prop := c ≠ 0 → a = some ⟨g, o, none⟩

set_option maxHeartbeats 1000000 in
theorem rowB (R : Int) (c g o n cap r : Nat) (w : World) (hR : 0 ≤ R ∧ R ≤ 8) (hC : c ≤ 8) (hn : (n : Int) = R * (c : Int)) (hr : (r : Int) < R) (hc : n ≤ cap) (hm : cap ≤ 9223372036854775807) :
    Calls Try.prog 79 #[.agg #[.int .i64 R, .int .i64 (c : Int), .slice (some ⟨g, o, none⟩) n cap], .int .i64 r] w fun e w' => ∃ a', e = .returned (.slice a' c c) ∧ RowAt g (o + r * c * 2) c a' ∧ Below w.heap.size w w' := by
  have h1 : (r : Int) * (c : Int) + (c : Int) ≤ (n : Int) := by
    rw [hn]
    have : ((r : Int) + 1) * (c : Int) ≤ R * (c : Int) := Int.mul_le_mul_of_nonneg_right (by omega) (by omega)
    rw [Int.add_mul, Int.one_mul] at this; exact this
  have h0 : 0 ≤ (r : Int) * (c : Int) := Int.mul_nonneg (by omega) (by omega)
  have h2 : ((r : Int) + 1) * (c : Int) = (r : Int) * (c : Int) + (c : Int) := by rw [Int.add_mul, Int.one_mul]
  have hn64 : (n : Int) ≤ 64 := by
    have := Int.mul_le_mul hR.2 (show (c : Int) ≤ 8 by omega) (by omega) (by omega)
    omega
  obtain ⟨q, hq⟩ : ∃ q : Nat, (r : Int) * (c : Int) = (q : Int) := ⟨r * c, by push_cast; rfl⟩
  have hqq : r * c = q := by have : ((r * c : Nat) : Int) = (q : Int) := by rw [← hq]; push_cast; rfl
                             exact Int.ofNat_inj.1 this
  rw [hqq]
  have h3 : ((r : Int) + 1) * (c : Int) = (q : Int) + (c : Int) := by rw [h2, hq]
  rw [hq] at h1 h0
  clear h2 hqq hn
  have HB := hide (bl_alloc (bl_refl w) (Obj.cells #[.int .i64 R, .int .i64 (c : Int), .slice (some ⟨g, o, none⟩) n cap] 66))
  by_cases hc0 : c = 0
  · subst hc0
    go_enter Try.func79, Try.ntmps79
    go_wp2_with fail
    go_region
    all_goals go_wp2
    all_goals go_ret
    all_goals exact ⟨_, rfl, fun h => absurd rfl h, by first | exact HB.out | exact HB.out.drew | exact below_drewN HB.out _⟩
  · have hne : ¬ q + c = q := by omega
    go_enter Try.func79, Try.ntmps79
    go_wp2_with fail
    go_region
    all_goals go_wp2
    all_goals go_ret
    all_goals exact ⟨_, ret_sl (by omega), fun _ => rfl, by first | exact HB.out | exact HB.out.drew | exact below_drewN HB.out _⟩

/-- a row of any list: of a list that may be nil -/
theorem rowG (R : Int) (c n cap r : Nat) (a : Option Addr) (w : World) (hR : 0 ≤ R ∧ R ≤ 8) (hC : c ≤ 8) (hn : (n : Int) = R * (c : Int)) (hr : (r : Int) < R) (hc : n ≤ cap) (hm : cap ≤ 9223372036854775807) (ha : n = 0 ∨ ∃ g o, a = some ⟨g, o, none⟩) :
    Calls Try.prog 79 #[.agg #[.int .i64 R, .int .i64 (c : Int), .slice a n cap], .int .i64 r] w fun e w' => ∃ a', e = .returned (.slice a' c c) ∧ (∀ g o, a = some ⟨g, o, none⟩ → RowAt g (o + r * c * 2) c a') ∧ Below w.heap.size w w' := by
  by_cases hs : ∃ g o, a = some ⟨g, o, none⟩
  · obtain ⟨g, o, rfl⟩ := hs
    exact (rowB R c g o n cap r w hR hC hn hr hc hm).mono fun e w' ⟨a', h1, h2, h3⟩ => ⟨a', h1, fun g' o' e => by cases e; exact h2, h3⟩
  have hn0 : n = 0 := by
    rcases ha with h | h
    · exact h
    · exact absurd h hs
  subst hn0
  have hc0 : c = 0 := by
    have h0 : R * (c : Int) = 0 := by rw [← hn]; rfl
    rcases Int.mul_eq_zero.1 h0 with h | h
    · omega
    · omega
  subst hc0
  have HB := hide (bl_alloc (bl_refl w) (Obj.cells #[.int .i64 R, .int .i64 ((0 : Nat) : Int), .slice a 0 cap] 66))
  have HNS := hide hs
  clear hn hs ha
  cases a with
  | none =>
    go_enter Try.func79, Try.ntmps79
    go_wp2_with fail
    go_region
    all_goals go_wp2
    all_goals go_ret
    all_goals exact ⟨_, rfl, fun g o e => (nomatch e), by first | exact HB.out | exact HB.out.drew | exact below_drewN HB.out _⟩
  | some x =>
    go_enter Try.func79, Try.ntmps79
    go_wp2_with fail
    go_region
    all_goals go_wp2
    all_goals go_ret
    all_goals exact ⟨_, rfl, fun g o e => absurd ⟨g, o, e⟩ HNS.out, by first | exact HB.out | exact HB.out.drew | exact below_drewN HB.out _⟩
theorem rowB0 (R : Int) (c g n cap r : Nat) (w : World) (hR : 0 ≤ R ∧ R ≤ 8) (hC : c ≤ 8) (hn : (n : Int) = R * (c : Int)) (hr : (r : Int) < R) (hc : n ≤ cap) (hm : cap ≤ 9223372036854775807) :
    Calls Try.prog 79 #[.agg #[.int .i64 R, .int .i64 (c : Int), .slice (some ⟨g, 0, none⟩) n cap], .int .i64 r] w fun e w' => ∃ a', e = .returned (.slice a' c c) ∧ RowAt g (r * c * 2) c a' ∧ Below w.heap.size w w' := by
  have := rowB R c g 0 n cap r w hR hC hn hr hc hm
  rw [Nat.zero_add] at this; exact this

set_option maxHeartbeats 1000000 in
theorem copiedBigI (neg : Bool) (a : Option Addr) (xs : List Nat) (c : Nat) (w : World) (hs : Seg w a xs.length c xs) (hn : xs.length ≤ 1048576) :
    Calls Try.prog 81 #[.agg #[.bool neg, .slice a xs.length c]] w fun e w' => ∃ b d, e = .returned (.agg #[.bool neg, .slice b xs.length d]) ∧ Own w' w.heap.size b xs.length d xs ∧ Below w.heap.size w w' := by
  have HS := hide hs
  clear hs
  have X1 : Hid ((((w.alloc (Obj.cells #[Value.bool neg, Value.slice a xs.length c] 54)).alloc (Obj.cells #[Value.bool false, Value.slice none 0 0] 54))).heap[w.heap.size]? = some (.cells #[Value.bool neg, Value.slice a xs.length c] 54 (0, 0))) := hide (hnewer (hnew _ _) _)
  have X2 : Hid ((((w.alloc (Obj.cells #[Value.bool neg, Value.slice a xs.length c] 54)).alloc (Obj.cells #[Value.bool false, Value.slice none 0 0] 54))).heap[w.heap.size + 1]? = some (.cells #[Value.bool false, Value.slice none 0 0] 54 (0, 0))) := hide (by have := hnew (w.alloc (Obj.cells #[Value.bool neg, Value.slice a xs.length c] 54)) (Obj.cells #[Value.bool false, Value.slice none 0 0] 54); simpa only [World.size_alloc] using this)
  have HB := hide (bl_alloc (bl_alloc (bl_refl w) (Obj.cells #[Value.bool neg, Value.slice a xs.length c] 54)) (Obj.cells #[Value.bool false, Value.slice none 0 0] 54))
  go_enter Try.func81, Try.ntmps81
  go_wp2_with fail
  generalize (w.alloc (Obj.cells #[Value.bool neg, Value.slice a xs.length c] 54)).alloc (Obj.cells #[Value.bool false, Value.slice none 0 0] 54) = W at *
  have KP : Hid (∀ w', Chg (fun k => k = w.heap.size + 1) W w' → (w'.cell? ⟨w.heap.size, 0, none⟩ = some (Value.bool neg) ∧ w'.cell? ⟨w.heap.size, 1, none⟩ = some (Value.slice a xs.length c))) := hide (fun w' h => ⟨(Lib.cell_of_heap (h.heap X1.out (by omega)) 0).trans rfl, (Lib.cell_of_heap (h.heap X1.out (by omega)) 1).trans rfl⟩)
  have hz2 := hlt X2.out
  go_region_held3 (fun w' => w'.cell? ⟨w.heap.size, 0, none⟩ = some (Value.bool neg) ∧ w'.cell? ⟨w.heap.size, 1, none⟩ = some (Value.slice a xs.length c))
    (first
      | exact KP.out _ (Chg.refl _ _).drew
      | exact KP.out _ hcg
      | exact KP.out _ ((hcg.set rfl _).set rfl _))
    (first
      | (go_at_call 95; refine (cloneI a _ c xs _ (HS.out.below (HB.out.drew)) hn).mono ?_; rintro e w3 ⟨b, d, rfl, ho, hb3'⟩; have hb3 : Below W.heap.size W w3 := (bl_refl W).drew.trans hb3'; have hcg : Chg (fun k => k = w.heap.size + 1) W w3 := Chg.below hb3; have HO := hide ho; have k0 := (Lib.cell_of_heap (hbel X2.out hb3 hz2) 0); have k1 := (Lib.cell_of_heap (hbel X2.out hb3 hz2) 1); have f0 := Lib.frozen_of_heap (hbel X2.out hb3 hz2) 0; have f1 := Lib.frozen_of_heap (hbel X2.out hb3 hz2) 1; clear ho hb3'))
  all_goals go_wp2
  all_goals refine bodyPost_ret (v := .agg #[.bool neg, .slice b xs.length d]) (by simp [results, Try.results81, go_sem, *]) rfl ?_
  all_goals exact ⟨b, d, rfl, ((HO.out.setCell (p := ⟨w.heap.size + 1, 0, none⟩) hz2 _).setCell (p := ⟨w.heap.size + 1, 1, none⟩) hz2 _).mono (by have := HB.out.size; simp only [World.size_drew]; omega), Chg.keep (bl_trans HB.out hb3) (((Chg.refl (fun k => k = w.heap.size + 1) w3).set rfl _).set rfl _) (fun k e => by omega) (by have := HB.out.size; have := hb3.size; omega)⟩
end Go.Proofs.Yteljkjpcjjiidaa
