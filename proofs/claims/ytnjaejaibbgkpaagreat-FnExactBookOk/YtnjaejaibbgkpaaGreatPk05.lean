/- My texts VLawKit, VArr, in this order. -/
import Derived.Test.YtnjaejaibbgkpaaGreatPk01
import Derived.Deep.RegionHeld3
import Derived.Deep.DeepCutAuto
/- What the walks of exact laws share: owned lists with the range in which they lie, marks from any number on. -/
namespace Go.Proofs.YtnjaejaibbgkpaaGreat.V
open Go.RowKit
set_option linter.unusedVariables false
set_option maxRecDepth 20000

theorem Seg.le {W : World} {a : Option Addr} {n cap : Nat} {xs : List Int} (h : Seg W a n cap xs) : n ≤ 9223372036854775807 := Nat.le_trans h.2.1 h.2.2.1
theorem apart_of {x y : Option Nat} {l1 h1 l2 h2 : Nat} (hx : ∀ k, x = some k → l1 ≤ k ∧ k < h1) (hy : ∀ k, y = some k → l2 ≤ k ∧ k < h2) (h : h1 ≤ l2 ∨ h2 ≤ l1) : x = none ∨ x ≠ y := by
  cases x with
  | none => exact .inl rfl
  | some k => refine .inr fun e => ?_; have a := hx k rfl; have b := hy k e.symm; omega
theorem Seg.grownLow {W0 W W' : World} {a : Option Addr} {n cap : Nat} {xs : List Int} {r : Option Nat} (h : Seg W a n cap xs) (h0 : Seg W0 a n cap xs) (hg : W.grownBy W' r) (hr : ∀ k, r = some k → W0.heap.size ≤ k) : Seg W' a n cap xs := by
  obtain ⟨h1, h2, h3, h5⟩ := h
  refine ⟨h1, h2, h3, ?_⟩
  rcases h5 with h5 | ⟨g, o, ha, hgl, hc⟩
  · exact .inl h5
  · rcases h0.2.2.2 with h6 | ⟨g', o', ha', hg', _⟩
    · exact .inl h6
    · rw [ha] at ha'
      cases ha'
      exact .inr ⟨g, o, ha, Nat.lt_of_lt_of_le hgl hg.size, fun j hj => hg.cell (hc j hj) (fun e => by have := hr g e.symm; omega)⟩
theorem grown_set (W : World) (p : Addr) (v : Value) : W.grownBy (W.setCell p v) (some p.block) :=
  ⟨rfl, rfl, rfl, by simp, fun k _ hk => heap_setCell_other W p k _ (fun e => hk (by simp [e]))⟩
/-- a list that is read, in a block from lo on to below hi -/
def RgS (W : World) (lo hi : Nat) (a : Option Addr) (n cap : Nat) (xs : List Int) : Prop := Seg W a n cap xs ∧ (0 < n → ∀ g o s, a = some ⟨g, o, s⟩ → lo ≤ g ∧ g < hi)
theorem Seg.setOff {W : World} {a : Option Addr} {n cap : Nat} {xs : List Int} (h : Seg W a n cap xs) {p : Addr} (hp : 0 < n → ∀ g o s, a = some ⟨g, o, s⟩ → g ≠ p.block) (v : Value) : Seg (W.setCell p v) a n cap xs := by
  obtain ⟨h1, h2, h3, h5⟩ := h
  refine ⟨h1, h2, h3, ?_⟩
  rcases h5 with h5 | ⟨g, o, ha, hg, hc⟩
  · exact .inl h5
  · by_cases h0 : n = 0
    · exact .inl h0
    · refine .inr ⟨g, o, ha, by simp; exact hg, fun j hj => ?_⟩
      rw [World.cell?_of_block (Below.heap_setCell W p v g (hp (by omega) _ _ _ ha))]
      exact hc j hj
theorem Seg.lt {W : World} {a : Option Addr} {n cap : Nat} {xs : List Int} (h : Seg W a n cap xs) (h0 : 0 < n) {g o : Nat} {s : Option Nat} (e : a = some ⟨g, o, s⟩) : g < W.heap.size := by
  rcases h.2.2.2 with h5 | ⟨g', o', ha, hg, _⟩
  · omega
  · rw [ha] at e; cases e; exact hg
theorem Own.rgs {W : World} {base : Nat} {a : Option Addr} {n cap : Nat} {xs : List Int} (h : Own W base a n cap xs) : RgS W base W.heap.size a n cap xs := by
  refine ⟨h.seg, fun h0 g o s e => ⟨?_, h.seg.lt h0 e⟩⟩
  rcases h.cases with ⟨rfl, _⟩ | ⟨g', rfl, h1, h2⟩
  · cases e
  · cases e; exact h1
theorem RgS.rgs {W : World} {lo hi : Nat} {a : Option Addr} {n cap : Nat} {xs : List Int} (h : RgS W lo hi a n cap xs) : RgS W lo hi a n cap xs := h
theorem RgS.seg {W : World} {lo hi : Nat} {a : Option Addr} {n cap : Nat} {xs : List Int} (h : RgS W lo hi a n cap xs) : Seg W a n cap xs := h.1
theorem RgS.below {W W' : World} {lo hi : Nat} {a : Option Addr} {n cap : Nat} {xs : List Int} (h : RgS W lo hi a n cap xs) (hb : Below W.heap.size W W') : RgS W' lo hi a n cap xs := ⟨h.1.below hb, h.2⟩
theorem RgS.alloc {W : World} {lo hi : Nat} {a : Option Addr} {n cap : Nat} {xs : List Int} (h : RgS W lo hi a n cap xs) (o : Obj) : RgS (W.alloc o) lo hi a n cap xs := h.below (bl_alloc (bl_refl W) o)
theorem RgS.drew {W : World} {lo hi : Nat} {a : Option Addr} {n cap : Nat} {xs : List Int} (h : RgS W lo hi a n cap xs) : RgS W.drew lo hi a n cap xs := h.below (bl_refl W).drew
theorem RgS.set {W : World} {lo hi : Nat} {a : Option Addr} {n cap : Nat} {xs : List Int} (h : RgS W lo hi a n cap xs) {p : Addr} (hp : p.block < lo ∨ hi ≤ p.block) (v : Value) : RgS (W.setCell p v) lo hi a n cap xs :=
  ⟨h.1.setOff (fun h0 g o s e => by have := h.2 h0 g o s e; omega) v, h.2⟩
theorem markBe (den : Int) (a : Option Addr) (n cap : Nat) (xs : List Int) (base k : Nat) (k0 : Int) (w : World) (hk : k0 = 1 + (k : Int)) (h2 : k + n ≤ 2000000) (hown : Own w base a n cap xs) :
    Calls Tryz.prog 16 #[.agg #[.int .i64 den, .slice a n cap], .int .i64 k0] w fun e w' => e = .returned (.int .i64 (k0 + (n : Int))) ∧ Own w' base a n cap (marks (1 + k) n) ∧ w.grownBy w' (Value.slice a n cap).ownBlock := by
  subst hk
  have := markB den a n cap xs base (1 + k) w (by omega) hown
  rw [show ((1 + k : Nat) : Int) = 1 + (k : Int) by omega] at this
  exact this.mono fun e w' ⟨he, h⟩ => ⟨by rw [he]; exact ret_int (by omega), h⟩
theorem heldBe (den : Int) (a : Option Addr) (n cap k : Nat) (k0 : Int) (w : World) (hk : k0 = 1 + (k : Int)) (h2 : k + n ≤ 2000000) (hs : Seg w a n cap (marks (1 + k) n)) :
    Calls Tryz.prog 18 #[.agg #[.int .i64 den, .slice a n cap], .int .i64 k0] w fun e w' => e = .returned (.int .i64 (k0 + (n : Int))) ∧ Below w.heap.size w w' := by
  subst hk
  have := heldB den a n cap (1 + k) w (by omega) hs
  rw [show ((1 + k : Nat) : Int) = 1 + (k : Int) by omega] at this
  exact this.mono fun e w' ⟨he, h⟩ => ⟨by rw [he]; exact ret_int (by omega), h⟩
theorem markUe (a : Option Addr) (n cap : Nat) (xs : List Int) (base k : Nat) (k0 : Int) (w : World) (hk : k0 = 1 + (k : Int)) (h2 : k + n ≤ 2000000) (hown : Own w base a n cap xs) :
    Calls Tryz.prog 42 #[.slice a n cap, .int .i64 k0] w fun e w' => e = .returned (.int .i64 (k0 + (n : Int))) ∧ Own w' base a n cap (marks (1 + k) n) ∧ w.grownBy w' (Value.slice a n cap).ownBlock := by
  subst hk
  have := markU a n cap xs base (1 + k) w (by omega) hown
  rw [show ((1 + k : Nat) : Int) = 1 + (k : Int) by omega] at this
  exact this.mono fun e w' ⟨he, h⟩ => ⟨by rw [he]; exact ret_int (by omega), h⟩
theorem inS_yes (n a b : Int) (w : World) (h1 : a ≤ n) (h2 : n ≤ b) :
    Calls Tryz.prog 48 #[.int .i64 n, .int .i64 a, .int .i64 b] w fun e w' => e = .returned (.bool true) ∧ w' = w := by
  have h3 : decide (n ≤ b) = true := by simp; omega
  go_enter Tryz.func48, Tryz.ntmps48
  go_wp2
  go_ret
  exact ⟨rfl, rfl⟩
theorem inS_no (n a b : Int) (w : World) (h : n < a ∨ b < n) :
    Calls Tryz.prog 48 #[.int .i64 n, .int .i64 a, .int .i64 b] w fun e w' => e = .returned (.bool false) ∧ w' = w := by
  by_cases h1 : n < a
  · clear h
    have h0 : ¬ a ≤ n := by omega
    go_enter Tryz.func48, Tryz.ntmps48
    go_wp2
    go_ret
    exact ⟨rfl, rfl⟩
  · have h2 : b < n := by omega
    have h3 : decide (n ≤ b) = false := by simp; omega
    have h4 : a ≤ n := by omega
    clear h
    go_enter Tryz.func48, Tryz.ntmps48
    go_wp2
    go_ret
    exact ⟨rfl, rfl⟩
end Go.Proofs.YtnjaejaibbgkpaaGreat.V

/- The walks over arrays of eight: whether all are within a bound, what they share with a number. -/
namespace Go.Proofs.YtnjaejaibbgkpaaGreat.V
open Go.RowKit
set_option linter.unusedVariables false
set_option maxRecDepth 20000

theorem index8 (f : Nat → Int) (k : Nat) (hk : k < 8) (w : World) : Sem.run Tryz.prog (Instr.index 125 (Value.agg #[Value.int .i64 (f 0), Value.int .i64 (f 1), Value.int .i64 (f 2), Value.int .i64 (f 3), Value.int .i64 (f 4), Value.int .i64 (f 5), Value.int .i64 (f 6), Value.int .i64 (f 7)]) (.int .i64 k)) w = .ok (.int .i64 (f k)) w := by
  have h : k = 0 ∨ k = 1 ∨ k = 2 ∨ k = 3 ∨ k = 4 ∨ k = 5 ∨ k = 6 ∨ k = 7 := by omega
  rcases h with rfl | rfl | rfl | rfl | rfl | rfl | rfl | rfl
  all_goals (first | rfl | simp [Instr.index, go_sem, asAgg])

/-- all of eight are within a bound -/
def winB (m : Int) (f : Nat → Int) : Bool := (List.range 8).all fun j => decide (-m ≤ f j ∧ f j ≤ m)
theorem winB_iff (m : Int) (f : Nat → Int) : winB m f = true ↔ ∀ j, j < 8 → -m ≤ f j ∧ f j ≤ m := by
  unfold winB; rw [List.all_eq_true]; simp
/-- what a number shares with the first k of a list -/
def gsh (n : Int) (f : Nat → Int) : Nat → Int
  | 0 => n
  | k + 1 => (Int.gcd (gsh n f k) (f k) : Nat)
theorem gcd_bd (a b : Int) (M : Int) (ha : -M ≤ a ∧ a ≤ M) (hb : -M ≤ b ∧ b ≤ M) : 0 ≤ (Int.gcd a b : Int) ∧ (Int.gcd a b : Int) ≤ M := by
  refine ⟨by omega, ?_⟩
  by_cases h : a = 0
  · subst h; rw [Int.gcd_zero_left]; omega
  · have := Nat.gcd_le_left b.natAbs (show 0 < a.natAbs by omega)
    have : Int.gcd a b ≤ a.natAbs := this
    omega
theorem gsh_bd (n : Int) (f : Nat → Int) (M : Int) (hn : -M ≤ n ∧ n ≤ M) (hf : ∀ j, j < 8 → -M ≤ f j ∧ f j ≤ M) : ∀ k, k ≤ 8 → -M ≤ gsh n f k ∧ gsh n f k ≤ M
  | 0, _ => hn
  | k + 1, hk => by
    have := gcd_bd (gsh n f k) (f k) M (gsh_bd n f M hn hf k (by omega)) (hf k (by omega))
    unfold gsh; omega

set_option maxHeartbeats 400000 in
theorem within8 (n m : Int) (f : Nat → Int) (w : World) (hm1 : 0 ≤ m) (hm2 : m ≤ 1000000000) :
    Calls Tryz.prog 125 #[Value.agg #[Value.int .i64 n, Value.int .i64 (f 0), Value.int .i64 (f 1), Value.int .i64 (f 2), Value.int .i64 (f 3), Value.int .i64 (f 4), Value.int .i64 (f 5), Value.int .i64 (f 6), Value.int .i64 (f 7)], .int .i64 m] w fun e w' => e = .returned (.bool (winB m f)) ∧ Below w.heap.size w w' := by
  have HB := hide (bl_alloc (bl_refl w) (Obj.cells #[Value.int .i64 n, Value.int .i64 (f 0), Value.int .i64 (f 1), Value.int .i64 (f 2), Value.int .i64 (f 3), Value.int .i64 (f 4), Value.int .i64 (f 5), Value.int .i64 (f 6), Value.int .i64 (f 7)] 127))
  go_enter Tryz.func125, Tryz.ntmps125
  go_wp2
  go_loop [9] (fun i => ∃ k : Nat, k ≤ 8 ∧ i = .int .i64 k ∧ Hid (∀ j, j < k → -m ≤ f j ∧ f j ≤ m)) (fun i => 8 - (intOf i).toNat)
  case atStart => exact ⟨0, by omega, rfl, hide (fun j h => by omega)⟩
  case round =>
    obtain ⟨k, hk, rfl, hj⟩ := hrel
    by_cases hlt : k < 8
    · have hlt' : (k : Int) < 8 := by omega
      have hix := index8 f k hlt
      by_cases h1 : f k < -m
      · have HW : Hid (winB m f = false) := hide (by cases e : winB m f with | false => rfl | true => have := (winB_iff m f).1 e k hlt; omega)
        go_wp2
        go_ret
        exact ⟨ret_bool HW.out.symm, HB.out⟩
      by_cases h2 : m < f k
      · have HW : Hid (winB m f = false) := hide (by cases e : winB m f with | false => rfl | true => have := (winB_iff m f).1 e k hlt; omega)
        go_wp2
        go_ret
        exact ⟨ret_bool HW.out.symm, HB.out⟩
      have HN : Hid (∀ j, j < k + 1 → -m ≤ f j ∧ f j ≤ m) := hide (fun j h => by
        by_cases e : j = k
        · subst e; omega
        · exact hj.out j (by omega))
      clear hj
      go_wp2
      exact ⟨⟨k + 1, by omega, by go_num, HN⟩, by simp [intOf]; omega⟩
    · obtain rfl : k = 8 := by omega
      have HW : Hid (winB m f = true) := hide ((winB_iff m f).2 hj.out)
      go_wp2
      go_ret
      exact ⟨ret_bool HW.out.symm, HB.out⟩

set_option maxHeartbeats 400000 in
theorem shared8 (n d : Int) (f : Nat → Int) (w : World) (hd : -1000000000000000 ≤ d ∧ d ≤ 1000000000000000) (hf : ∀ j, j < 8 → -1000000000000000 ≤ f j ∧ f j ≤ 1000000000000000) :
    Calls Tryz.prog 126 #[Value.agg #[Value.int .i64 n, Value.int .i64 (f 0), Value.int .i64 (f 1), Value.int .i64 (f 2), Value.int .i64 (f 3), Value.int .i64 (f 4), Value.int .i64 (f 5), Value.int .i64 (f 6), Value.int .i64 (f 7)], .int .i64 d] w fun e w' => e = .returned (.int .i64 (gsh d f 8)) ∧ Below w.heap.size w w' := by
  have HB := hide (bl_alloc (bl_refl w) (Obj.cells #[Value.int .i64 n, Value.int .i64 (f 0), Value.int .i64 (f 1), Value.int .i64 (f 2), Value.int .i64 (f 3), Value.int .i64 (f 4), Value.int .i64 (f 5), Value.int .i64 (f 6), Value.int .i64 (f 7)] 127))
  have HD := hide hd
  have HF := hide hf
  clear hd hf
  go_enter Tryz.func126, Tryz.ntmps126
  go_wp2
  generalize (w.alloc (Obj.cells #[Value.int .i64 n, Value.int .i64 (f 0), Value.int .i64 (f 1), Value.int .i64 (f 2), Value.int .i64 (f 3), Value.int .i64 (f 4), Value.int .i64 (f 5), Value.int .i64 (f 6), Value.int .i64 (f 7)] 127)) = w1 at *
  go_loopw [1, 9] (fun g i wr => ∃ k : Nat, k ≤ 8 ∧ i = .int .i64 k ∧ g = .int .i64 (gsh d f k) ∧ ∃ m, wr = w1.drewN m) (fun _ i _ => 8 - (intOf i).toNat)
  case atStart => exact ⟨0, by omega, rfl, rfl, 0, rfl⟩
  case round =>
    obtain ⟨k, hk, rfl, rfl, m, rfl⟩ := hrel
    by_cases hlt : k < 8
    · have hlt' : (k : Int) < 8 := by omega
      have hix := index8 f k hlt
      obtain ⟨g1, g2⟩ := gsh_bd d f 1000000000000000 HD.out HF.out k hk
      obtain ⟨f1, f2⟩ := HF.out k hlt
      have HG : Hid (gsh d f (k + 1) = (Int.gcd (gsh d f k) (f k) : Nat)) := hide rfl
      go_wp2_with (go_at_call 141; refine (gdI _ _ _ g1 g2 f1 f2).mono ?_; rintro e w2 ⟨rfl, m2, rfl⟩)
      exact ⟨⟨k + 1, by omega, by go_num, by rw [HG.out], m + m2, rfl⟩, by simp [intOf]; omega⟩
    · obtain rfl : k = 8 := by omega
      go_wp2
      go_ret
      exact ⟨rfl, below_drewN HB.out m⟩
end Go.Proofs.YtnjaejaibbgkpaaGreat.V
