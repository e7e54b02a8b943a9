/- Both MatOk: whether a matrix is right. -/
import Derived.Test.YteljkjpcjjiidaaMk
namespace Go.Proofs.Yteljkjpcjjiidaa
open Go.RowKit
set_option linter.unusedVariables false
set_option maxRecDepth 20000

/-- a number that may stand in a matrix -/
def entB (e : Bool × List Nat) : Bool := okB e.1 e.2 && decide (e.2.length ≤ 8)
def allB (E : Nat → Bool × List Nat) : Nat → Bool
  | 0 => true
  | n + 1 => allB E n && entB (E n)
def sideB (x : Int) : Bool := decide (0 ≤ x ∧ x ≤ 8)
/-- a right matrix -/
def matB (R C : Int) (n : Nat) (E : Nat → Bool × List Nat) : Bool := sideB R && (sideB C && (decide ((n : Int) = R * C) && allB E n))
theorem allB_iff {E : Nat → Bool × List Nat} {n : Nat} : allB E n = true ↔ ∀ j, j < n → entB (E j) = true := by
  induction n with
  | zero => simp [allB]
  | succ n ih =>
    simp only [allB, Bool.and_eq_true, ih]
    constructor
    · intro h j hj
      by_cases e : j = n
      · subst e; exact h.2
      · exact h.1 j (by omega)
    · intro h; exact ⟨fun j hj => h j (by omega), h n (by omega)⟩
theorem allB_no {E : Nat → Bool × List Nat} {n k : Nat} (hk : k < n) (h : entB (E k) = false) : allB E n = false := by
  cases e : allB E n with
  | false => rfl
  | true => rw [allB_iff.1 e k hk] at h; cases h
theorem side_iff {x : Int} : sideB x = true ↔ 0 ≤ x ∧ x ≤ 8 := by simp [sideB]
theorem matB_iff {R C : Int} {n : Nat} {E : Nat → Bool × List Nat} : matB R C n E = true ↔ (0 ≤ R ∧ R ≤ 8) ∧ (0 ≤ C ∧ C ≤ 8) ∧ (n : Int) = R * C ∧ ∀ j, j < n → entB (E j) = true := by
  simp [matB, side_iff, allB_iff]

theorem sideI (x : Int) (w : World) : Calls Try.prog 36 #[.int .i64 x] w fun e w' => e = .returned (.bool (sideB x)) ∧ w' = w := by
  by_cases h0 : x < 0
  · have e : sideB x = false := by unfold sideB; exact decide_eq_false (by omega)
    rw [e]
    go_enter Try.func36, Try.ntmps36
    go_wp2
    go_ret
    exact ⟨rfl, rfl⟩
  · by_cases h1 : 8 < x
    · have e : sideB x = false := by unfold sideB; exact decide_eq_false (by omega)
      rw [e]
      go_enter Try.func36, Try.ntmps36
      go_wp2
      go_ret
      exact ⟨ret_bool (decide_eq_false (by omega)), rfl⟩
    · have e : sideB x = true := by unfold sideB; exact decide_eq_true (by omega)
      rw [e]
      go_enter Try.func36, Try.ntmps36
      go_wp2
      go_ret
      exact ⟨rfl, rfl⟩
theorem inSide (x : Int) (w : World) : Calls Try.prog 33 #[.int .i64 x, .int .i64 0, .int .i64 8] w fun e w' => e = .returned (.bool (sideB x)) ∧ w' = w := by
  by_cases h0 : x < 0
  · have e : sideB x = false := by unfold sideB; exact decide_eq_false (by omega)
    rw [e]
    go_enter Try.func33, Try.ntmps33
    go_wp2
    go_ret
    exact ⟨rfl, rfl⟩
  · by_cases h1 : 8 < x
    · have e : sideB x = false := by unfold sideB; exact decide_eq_false (by omega)
      rw [e]
      go_enter Try.func33, Try.ntmps33
      go_wp2
      go_ret
      exact ⟨ret_bool (decide_eq_false (by omega)), rfl⟩
    · have e : sideB x = true := by unfold sideB; exact decide_eq_true (by omega)
      rw [e]
      go_enter Try.func33, Try.ntmps33
      go_wp2
      go_ret
      exact ⟨rfl, rfl⟩

theorem fitsI (neg : Bool) (a : Option Addr) (xs : List Nat) (c : Nat) (w : World) (hs : Seg w a xs.length c xs) :
    Calls Try.prog 37 #[.agg #[.bool neg, .slice a xs.length c]] w fun e w' => e = .returned (.bool (entB (neg, xs))) ∧ Below w.heap.size w w' := by
  have hle := Nat.le_trans hs.2.1 hs.2.2.1
  have HS := hide hs
  clear hs
  have kx : Hid ((w.alloc (Obj.cells #[.bool neg, .slice a xs.length c] 54)).heap[w.heap.size]? = some (.cells #[.bool neg, .slice a xs.length c] 54 (0, 0))) := hide (hnew _ _)
  have HB := hide (bl_alloc (bl_refl w) (Obj.cells #[.bool neg, .slice a xs.length c] 54))
  go_enter Try.func37, Try.ntmps37
  go_wp2_with fail
  generalize w.alloc (Obj.cells #[.bool neg, .slice a xs.length c] 54) = w1 at *
  have hlt := hlt kx.out
  refine (okI _ neg xs w1 ⟨a, c, rfl, HS.out.below HB.out⟩).mono ?_
  rintro e w2 ⟨rfl, hb2⟩
  have k1 : w2.cell? ⟨w.heap.size, 1, none⟩ = some (Value.slice a xs.length c) := (Lib.cell_of_heap (hbel kx.out hb2 hlt) 1).trans rfl
  have HB2 := hide (bl_trans HB.out hb2)
  clear hb2
  have HE : Hid (entB (neg, xs) = (okB neg xs && decide (xs.length ≤ 8))) := hide rfl
  cases hok : okB neg xs with
  | false =>
    have HK := hide hok
    clear hok
    go_wp2
    go_ret
    exact ⟨ret_bool (by rw [HE.out, HK.out]; rfl), HB2.out⟩
  | true =>
    have HK := hide hok
    clear hok
    go_wp2
    go_ret
    exact ⟨ret_bool (by rw [HE.out, HK.out, Bool.true_and]; exact decide_eq_decide.2 (by omega)), HB2.out⟩

set_option maxHeartbeats 1000000 in
theorem matOkI (R C : Int) (a : Option Addr) (n cap : Nat) (X : Nat → Prop) (E : Nat → Bool × List Nat) (w : World) (hs : BSeg w X a n cap E) (hn : n ≤ 1048576) :
    Calls Try.prog 13 #[.agg #[.int .i64 R, .int .i64 C, .slice a n cap]] w fun e w' => e = .returned (.bool (matB R C n E)) ∧ Below w.heap.size w w' := by
  have HS := hide hs
  clear hs
  have HMB : Hid (matB R C n E = (sideB R && (sideB C && (decide ((n : Int) = R * C) && allB E n)))) := hide rfl
  have kx : Hid ((w.alloc (Obj.cells #[.int .i64 R, .int .i64 C, .slice a n cap] 29)).heap[w.heap.size]? = some (.cells #[.int .i64 R, .int .i64 C, .slice a n cap] 29 (0, 0))) := hide (hnew _ _)
  have HB := hide (bl_alloc (bl_refl w) (Obj.cells #[.int .i64 R, .int .i64 C, .slice a n cap] 29))
  go_enter Try.func13, Try.ntmps13
  go_wp2_with fail
  generalize w.alloc (Obj.cells #[.int .i64 R, .int .i64 C, .slice a n cap] 29) = w1 at *
  have hl := hlt kx.out
  have k0 : w1.cell? ⟨w.heap.size, 0, none⟩ = some (Value.int .i64 R) := (Lib.cell_of_heap kx.out 0).trans rfl
  have k1 : w1.cell? ⟨w.heap.size, 1, none⟩ = some (Value.int .i64 C) := (Lib.cell_of_heap kx.out 1).trans rfl
  have k2 : w1.cell? ⟨w.heap.size, 2, none⟩ = some (Value.slice a n cap) := (Lib.cell_of_heap kx.out 2).trans rfl
  refine (sideI R w1).mono ?_
  rintro e w2 ⟨rfl, hw⟩
  subst w2
  cases hR : sideB R with
  | false =>
    have HR := hide hR
    clear hR
    go_wp2
    go_ret
    exact ⟨ret_bool (by rw [HMB.out, HR.out]; rfl), HB.out⟩
  | true =>
    have hR2 := side_iff.1 hR
    have HR := hide hR
    clear hR
    go_wp2_with fail
    refine (sideI C w1).mono ?_
    rintro e w2 ⟨rfl, hw⟩
    subst w2
    cases hC : sideB C with
    | false =>
      have HC := hide hC
      clear hC
      go_wp2
      go_ret
      exact ⟨ret_bool (by rw [HMB.out, HR.out, HC.out]; rfl), HB.out⟩
    | true =>
      have hC2 := side_iff.1 hC
      have HC := hide hC
      clear hC
      have hp0 : 0 ≤ R * C := Int.mul_nonneg hR2.1 hC2.1
      have hp1 : R * C ≤ 64 := by
        have := Int.mul_le_mul hR2.2 hC2.2 hC2.1 (by omega)
        omega
      by_cases hne : (n : Int) = R * C
      · have hne2 : ((n : Int) != R * C) = false := by rw [bne_eq_false_iff_eq]; exact hne
        have HN := hide hne
        have hn64 : n ≤ 64 := by omega
        clear hne
        go_wp2
        go_loopw [29] (fun i wr => ∃ k : Nat, k ≤ n ∧ i = .int .i64 k ∧ Hid (allB E k = true) ∧ Hid (Below w.heap.size w wr)) (fun i _ => n - (intOf i).toNat)
        case atStart => exact ⟨0, Nat.zero_le _, rfl, hide rfl, HB⟩
        case round =>
          obtain ⟨k, hk, rfl, hf, hb⟩ := hrel
          by_cases hlt : k < n
          · have hlt' : (k : Int) < (n : Int) := by omega
            obtain ⟨g, o, rfl, hg, a1, c1, t0, t1, sg⟩ := (HS.out.below hb.out).at hlt
            have HAS := hide (show allB E (k + 1) = (allB E k && entB (E k)) from rfl)
            have HNO := hide (fun h => allB_no (E := E) hlt h)
            obtain ⟨⟨b1, xs⟩, ek⟩ : ∃ p, E k = p := ⟨_, rfl⟩
            have EK := hide ek
            rw [ek] at t0 t1 sg
            dsimp only at t0 t1 sg
            have H1 := hide sg
            clear ek sg
            go_wp2_with fail
            refine (fitsI b1 a1 xs c1 _ (H1.out.below (bl_alloc (bl_refl wr) _))).mono ?_
            rintro e w2 ⟨rfl, hb2⟩
            have HB2 := hide (bl_trans (bl_trans hb.out (bl_alloc (bl_refl wr) _)) hb2)
            clear hb2 t0 t1
            cases he : entB (b1, xs) with
            | false =>
              have HE := hide he
              clear he
              go_wp2
              go_ret
              exact ⟨ret_bool (by rw [HMB.out, HNO.out (by rw [EK.out]; exact HE.out)]; simp), HB2.out⟩
            | true =>
              have HE := hide he
              clear he
              go_wp2
              exact ⟨⟨k + 1, by omega, by go_num, hide (by rw [HAS.out, hf.out, EK.out, HE.out]; rfl), HB2⟩, by simp [intOf]; omega⟩
          · obtain rfl : k = n := by omega
            go_wp2
            go_ret
            exact ⟨ret_bool (by rw [HMB.out, HR.out, HC.out, decide_eq_true HN.out, hf.out]; rfl), hb.out⟩
      · have hne2 : ((n : Int) != R * C) = true := by simp only [bne_iff_ne]; exact hne
        have HN := hide hne
        clear hne
        go_wp2
        go_ret
        exact ⟨ret_bool (by rw [HMB.out, HR.out, HC.out, decide_eq_false HN.out]; rfl), HB.out⟩

set_option maxHeartbeats 1000000 in
theorem matOkS (R C : Int) (a : Option Addr) (n cap : Nat) (X : Nat → Prop) (E : Nat → Bool × List Nat) (w : World) (hs : BSeg w X a n cap E) (hn : n ≤ 1048576) :
    Calls Try.prog 11 #[.agg #[.int .i64 R, .int .i64 C, .slice a n cap]] w fun e w' => e = .returned (.bool (matB R C n E)) ∧ Below w.heap.size w w' := by
  have HS := hide hs
  have hcap := hs.1
  have hcm := hs.2.1
  clear hs
  have HMB : Hid (matB R C n E = (sideB R && (sideB C && (decide ((n : Int) = R * C) && allB E n)))) := hide rfl
  have kx : Hid ((w.alloc (Obj.cells #[.int .i64 R, .int .i64 C, .slice a n cap] 29)).heap[w.heap.size]? = some (.cells #[.int .i64 R, .int .i64 C, .slice a n cap] 29 (0, 0))) := hide (hnew _ _)
  have HB := hide (bl_alloc (bl_refl w) (Obj.cells #[.int .i64 R, .int .i64 C, .slice a n cap] 29))
  go_enter Try.func11, Try.ntmps11
  go_wp2_with fail
  generalize w.alloc (Obj.cells #[.int .i64 R, .int .i64 C, .slice a n cap] 29) = w1 at *
  have hl := hlt kx.out
  have k0 : w1.cell? ⟨w.heap.size, 0, none⟩ = some (Value.int .i64 R) := (Lib.cell_of_heap kx.out 0).trans rfl
  have k1 : w1.cell? ⟨w.heap.size, 1, none⟩ = some (Value.int .i64 C) := (Lib.cell_of_heap kx.out 1).trans rfl
  have k2 : w1.cell? ⟨w.heap.size, 2, none⟩ = some (Value.slice a n cap) := (Lib.cell_of_heap kx.out 2).trans rfl
  refine (inSide R w1).mono ?_
  rintro e w2 ⟨rfl, hw⟩
  subst w2
  cases hR : sideB R with
  | false =>
    have HR := hide hR
    clear hR
    go_wp2
    go_ret
    exact ⟨ret_bool (by rw [HMB.out, HR.out]; rfl), HB.out⟩
  | true =>
    have hR2 := side_iff.1 hR
    have HR := hide hR
    clear hR
    go_wp2_with fail
    refine (inSide C w1).mono ?_
    rintro e w2 ⟨rfl, hw⟩
    subst w2
    cases hC : sideB C with
    | false =>
      have HC := hide hC
      clear hC
      go_wp2
      go_ret
      exact ⟨ret_bool (by rw [HMB.out, HR.out, HC.out]; rfl), HB.out⟩
    | true =>
      have hC2 := side_iff.1 hC
      have HC := hide hC
      clear hC
      have hp0 : 0 ≤ R * C := Int.mul_nonneg hR2.1 hC2.1
      have hp1 : R * C ≤ 64 := by
        have := Int.mul_le_mul hR2.2 hC2.2 hC2.1 (by omega)
        omega
      by_cases hne : (n : Int) = R * C
      · have hne2 : ((n : Int) != R * C) = false := by rw [bne_eq_false_iff_eq]; exact hne
        have HN := hide hne
        have hn64 : n ≤ 64 := by omega
        clear hne
        go_wp2
        go_loopw [3] (fun i wr => ∃ k : Nat, k ≤ n ∧ i = .int .i64 k ∧ Hid (allB E k = true) ∧ Hid (Below w1.heap.size w1 wr)) (fun i _ => n - (intOf i).toNat)
        case atStart => exact ⟨0, Nat.zero_le _, rfl, hide rfl, hide (bl_refl w1)⟩
        case round =>
          obtain ⟨k, hk, rfl, hf, hb⟩ := hrel
          have k2 : wr.cell? ⟨w.heap.size, 2, none⟩ = some (Value.slice a n cap) := (hb.out.cell (p := ⟨w.heap.size, 2, none⟩) hl).trans k2
          by_cases hlt : k < n
          · have hlt' : (k : Int) < (n : Int) := by omega
            obtain ⟨g, o, rfl, hg, a1, c1, t0, t1, sg⟩ := (HS.out.below (bl_trans HB.out hb.out)).at hlt
            have HAS := hide (show allB E (k + 1) = (allB E k && entB (E k)) from rfl)
            have HNO := hide (fun h => allB_no (E := E) hlt h)
            obtain ⟨⟨b1, xs⟩, ek⟩ : ∃ p, E k = p := ⟨_, rfl⟩
            have EK := hide ek
            rw [ek] at t0 t1 sg
            dsimp only at t0 t1 sg
            have hxl := Nat.le_trans sg.2.1 sg.2.2.1
            have H1 := hide sg
            clear ek sg
            by_cases h8 : (8 : Int) < (xs.length : Int)
            · have HE : Hid (entB (b1, xs) = false) := hide (by unfold entB; rw [decide_eq_false (by simp only; omega)]; simp)
              go_wp2
              go_ret
              exact ⟨ret_bool (by rw [HMB.out, HNO.out (by rw [EK.out]; exact HE.out)]; simp), bl_trans HB.out hb.out⟩
            have HEE : Hid (entB (b1, xs) = okB b1 xs) := hide (by unfold entB; rw [decide_eq_true (by simp only; omega)]; simp)
            go_wp2_with fail
            refine (okS _ b1 xs wr ⟨a1, c1, rfl, H1.out⟩).mono ?_
            rintro e w2 ⟨rfl, hb2⟩
            have HB2 := hide (bl_trans hb.out hb2)
            clear hb2 t0 t1
            cases he : okB b1 xs with
            | false =>
              have HE := hide he
              clear he
              go_wp2
              go_ret
              exact ⟨ret_bool (by rw [HMB.out, HNO.out (by rw [EK.out, HEE.out]; exact HE.out)]; simp), bl_trans HB.out HB2.out⟩
            | true =>
              have HE := hide he
              clear he
              go_wp2
              exact ⟨⟨k + 1, by omega, by go_num, hide (by rw [HAS.out, hf.out, EK.out, HEE.out, HE.out]; rfl), HB2⟩, by simp [intOf]; omega⟩
          · obtain rfl : k = n := by omega
            go_wp2
            go_ret
            exact ⟨ret_bool (by rw [HMB.out, HR.out, HC.out, decide_eq_true HN.out, hf.out]; rfl), bl_trans HB.out hb.out⟩
      · have hne2 : ((n : Int) != R * C) = true := by simp only [bne_iff_ne]; exact hne
        have HN := hide hne
        clear hne
        go_wp2
        go_ret
        exact ⟨ret_bool (by rw [HMB.out, HR.out, HC.out, decide_eq_false HN.out]; rfl), HB.out⟩
end Go.Proofs.Yteljkjpcjjiidaa
