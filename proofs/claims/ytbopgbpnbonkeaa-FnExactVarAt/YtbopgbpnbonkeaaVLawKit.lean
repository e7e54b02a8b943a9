/- What the walks of exact laws share: owned lists with the range in which they lie, marks from any number on. -/
import Derived.Test.YtbopgbpnbonkeaaVHelp
import Derived.Deep.RegionHeld3
import Derived.Deep.DeepCutAuto
namespace Go.Proofs.Ytbopgbpnbonkeaa.V
open Go.RowKit
set_option linter.unusedVariables false
set_option maxRecDepth 20000

theorem Seg.le {W : World} {a : Option Addr} {n cap : Nat} {xs : List Int} (h : Seg W a n cap xs) : n ≤ 9223372036854775807 := Nat.le_trans h.2.1 h.2.2.1
theorem apart_of {x y : Option Nat} {l1 h1 l2 h2 : Nat} (hx : ∀ k, x = some k → l1 ≤ k ∧ k < h1) (hy : ∀ k, y = some k → l2 ≤ k ∧ k < h2) (h : h1 ≤ l2 ∨ h2 ≤ l1) : x = none ∨ x ≠ y := by
  cases x with
  | none => exact .inl rfl
  | some k => refine .inr fun e => ?_; have a := hx k rfl; have b := hy k e.symm; omega
theorem Seg.grownLow {W0 W W' : World} {a : Option Addr} {n cap : Nat} {xs : List Int} {r : Option Nat} (h : Seg W a n cap xs) (h0 : Seg W0 a n cap xs) (hg : W.grownBy W' r) (hr : ∀ k, r = some k → W0.heap.size ≤ k) : Seg W' a n cap xs := by
  obtain ⟨h1, h2, h3, h5⟩ := h
  refine ⟨h1, h2, h3, ?_⟩
  rcases h5 with h5 | ⟨g, o, ha, hgl, hc⟩
  · exact .inl h5
  · rcases h0.2.2.2 with h6 | ⟨g', o', ha', hg', _⟩
    · exact .inl h6
    · rw [ha] at ha'
      cases ha'
      exact .inr ⟨g, o, ha, Nat.lt_of_lt_of_le hgl hg.size, fun j hj => hg.cell (hc j hj) (fun e => by have := hr g e.symm; omega)⟩
theorem grown_set (W : World) (p : Addr) (v : Value) : W.grownBy (W.setCell p v) (some p.block) :=
  ⟨rfl, rfl, rfl, by simp, fun k _ hk => heap_setCell_other W p k _ (fun e => hk (by simp [e]))⟩
/-- a list that is read, in a block from lo on to below hi -/
def RgS (W : World) (lo hi : Nat) (a : Option Addr) (n cap : Nat) (xs : List Int) : Prop := Seg W a n cap xs ∧ (0 < n → ∀ g o s, a = some ⟨g, o, s⟩ → lo ≤ g ∧ g < hi)
theorem Seg.setOff {W : World} {a : Option Addr} {n cap : Nat} {xs : List Int} (h : Seg W a n cap xs) {p : Addr} (hp : 0 < n → ∀ g o s, a = some ⟨g, o, s⟩ → g ≠ p.block) (v : Value) : Seg (W.setCell p v) a n cap xs := by
  obtain ⟨h1, h2, h3, h5⟩ := h
  refine ⟨h1, h2, h3, ?_⟩
  rcases h5 with h5 | ⟨g, o, ha, hg, hc⟩
  · exact .inl h5
  · by_cases h0 : n = 0
    · exact .inl h0
    · refine .inr ⟨g, o, ha, by simp; exact hg, fun j hj => ?_⟩
      rw [World.cell?_of_block (Below.heap_setCell W p v g (hp (by omega) _ _ _ ha))]
      exact hc j hj
theorem Seg.lt {W : World} {a : Option Addr} {n cap : Nat} {xs : List Int} (h : Seg W a n cap xs) (h0 : 0 < n) {g o : Nat} {s : Option Nat} (e : a = some ⟨g, o, s⟩) : g < W.heap.size := by
  rcases h.2.2.2 with h5 | ⟨g', o', ha, hg, _⟩
  · omega
  · rw [ha] at e; cases e; exact hg
theorem Own.rgs {W : World} {base : Nat} {a : Option Addr} {n cap : Nat} {xs : List Int} (h : Own W base a n cap xs) : RgS W base W.heap.size a n cap xs := by
  refine ⟨h.seg, fun h0 g o s e => ⟨?_, h.seg.lt h0 e⟩⟩
  rcases h.cases with ⟨rfl, _⟩ | ⟨g', rfl, h1, h2⟩
  · cases e
  · cases e; exact h1
theorem RgS.rgs {W : World} {lo hi : Nat} {a : Option Addr} {n cap : Nat} {xs : List Int} (h : RgS W lo hi a n cap xs) : RgS W lo hi a n cap xs := h
theorem RgS.seg {W : World} {lo hi : Nat} {a : Option Addr} {n cap : Nat} {xs : List Int} (h : RgS W lo hi a n cap xs) : Seg W a n cap xs := h.1
theorem RgS.below {W W' : World} {lo hi : Nat} {a : Option Addr} {n cap : Nat} {xs : List Int} (h : RgS W lo hi a n cap xs) (hb : Below W.heap.size W W') : RgS W' lo hi a n cap xs := ⟨h.1.below hb, h.2⟩
theorem RgS.alloc {W : World} {lo hi : Nat} {a : Option Addr} {n cap : Nat} {xs : List Int} (h : RgS W lo hi a n cap xs) (o : Obj) : RgS (W.alloc o) lo hi a n cap xs := h.below (bl_alloc (bl_refl W) o)
theorem RgS.drew {W : World} {lo hi : Nat} {a : Option Addr} {n cap : Nat} {xs : List Int} (h : RgS W lo hi a n cap xs) : RgS W.drew lo hi a n cap xs := h.below (bl_refl W).drew
theorem RgS.set {W : World} {lo hi : Nat} {a : Option Addr} {n cap : Nat} {xs : List Int} (h : RgS W lo hi a n cap xs) {p : Addr} (hp : p.block < lo ∨ hi ≤ p.block) (v : Value) : RgS (W.setCell p v) lo hi a n cap xs :=
  ⟨h.1.setOff (fun h0 g o s e => by have := h.2 h0 g o s e; omega) v, h.2⟩
theorem inS_yes (n a b : Int) (w : World) (h1 : a ≤ n) (h2 : n ≤ b) :
    Calls Try.prog 13 #[.int .i64 n, .int .i64 a, .int .i64 b] w fun e w' => e = .returned (.bool true) ∧ w' = w := by
  have h3 : decide (n ≤ b) = true := by simp; omega
  go_enter Try.func13, Try.ntmps13
  go_wp2
  go_ret
  exact ⟨rfl, rfl⟩
theorem inS_no (n a b : Int) (w : World) (h : n < a ∨ b < n) :
    Calls Try.prog 13 #[.int .i64 n, .int .i64 a, .int .i64 b] w fun e w' => e = .returned (.bool false) ∧ w' = w := by
  by_cases h1 : n < a
  · clear h
    have h0 : ¬ a ≤ n := by omega
    go_enter Try.func13, Try.ntmps13
    go_wp2
    go_ret
    exact ⟨rfl, rfl⟩
  · have h2 : b < n := by omega
    have h3 : decide (n ≤ b) = false := by simp; omega
    have h4 : a ≤ n := by omega
    clear h
    go_enter Try.func13, Try.ntmps13
    go_wp2
    go_ret
    exact ⟨rfl, rfl⟩
end Go.Proofs.Ytbopgbpnbonkeaa.V
