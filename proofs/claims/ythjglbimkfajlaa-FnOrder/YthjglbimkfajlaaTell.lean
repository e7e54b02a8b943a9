/- The walks of the small draws, told with where the cursor stands: the next number is known, and where the code has been read to its end the byte drawn is known too. -/
import Derived.Test.YthjglbimkfajlaaDraw
import Derived.Test.YthjglbimkfajlaaLcg
namespace Go.Proofs.Ythjglbimkfajlaa
open Go.RowKit
set_option linter.unusedVariables false

/-- the byte that a number makes -/
def draw (h : Int) : Nat := (bits .and .i64 (bits .xor .i64 (h / 8589934592) (h / 35184372088832)) 255).toNat
theorem draw_one : draw (Lcg.next 8) % 5 = 0 := by decide +kernel
theorem draw_two : draw (Lcg.next (Lcg.next 8)) % 5 = 4 := by decide +kernel
theorem draw_three : draw (Lcg.next (Lcg.next (Lcg.next 8))) % 5 = 4 := by decide +kernel

/-- how far it is to a number behind which something is written -/
def Near (h : Int) (t : Nat) : Prop := Lcg.nexts t h = 8 ∨ h = Lcg.next 8 ∨ h = Lcg.next (Lcg.next 8)
theorem near_start : ∃ K, ∀ h, ∃ t, t < K ∧ Near h t := by
  obtain ⟨K, hK⟩ := Lcg.to_eight
  exact ⟨K, fun h => by obtain ⟨t, ht, e⟩ := hK h; exact ⟨t, ht, .inl e⟩⟩
theorem near_far {h : Int} {t : Nat} (hn : Near h t) (hd : draw (Lcg.next h) % 5 = 1 ∨ draw (Lcg.next h) % 5 = 2) : ∃ s, t = s + 1 ∧ Lcg.nexts s (Lcg.next h) = 8 := by
  rcases hn with hn | rfl | rfl
  · cases t with
    | zero => have e : h = 8 := hn
              rw [e, draw_one] at hd; omega
    | succ s => exact ⟨s, rfl, hn⟩
  · rw [draw_two] at hd; omega
  · rw [draw_three] at hd; omega
theorem near_one {h : Int} {t : Nat} (hn : Near h t) (hd : draw (Lcg.next h) % 5 = 1 ∨ draw (Lcg.next h) % 5 = 2) : ∃ s, s < t ∧ Near (Lcg.next h) s := by
  obtain ⟨s, rfl, e⟩ := near_far hn hd
  exact ⟨s, by omega, .inl e⟩
theorem near_three {h : Int} {t : Nat} (hn : Near h t) (hd : draw (Lcg.next h) % 5 = 1 ∨ draw (Lcg.next h) % 5 = 2) : ∃ s, s < t ∧ Near (Lcg.next (Lcg.next (Lcg.next h))) s := by
  obtain ⟨s, rfl, e⟩ := near_far hn hd
  cases s with
  | zero => have e' : Lcg.next h = 8 := e
            exact ⟨0, by omega, .inr (.inr (by rw [e']))⟩
  | succ s =>
    cases s with
    | zero => have e' : Lcg.next (Lcg.next h) = 8 := e
              exact ⟨0, by omega, .inr (.inl (by rw [e']))⟩
    | succ s => exact ⟨s, by omega, .inl e⟩

/-- the cursor, told with its place and its number -/
def CurS (B : Nat) (a : Option Addr) (len cap i : Nat) (h : Int) (w : World) : Prop :=
  Cur B a len cap w ∧ i ≤ len ∧ w.cell? ⟨B, 1, none⟩ = some (.int .i64 i) ∧ w.cell? ⟨B, 2, none⟩ = some (.int .i64 h)
theorem Cur.tell {B : Nat} {a : Option Addr} {len cap : Nat} {w : World} (h : Cur B a len cap w) : ∃ i v, CurS B a len cap i v w := by
  obtain ⟨i, hi, hc⟩ := h.c1
  obtain ⟨v, hv⟩ := h.c2
  exact ⟨i, v, h, hi, hc, hv⟩
theorem CurS.drewN {B : Nat} {a : Option Addr} {len cap i : Nat} {h : Int} {w : World} (hc : CurS B a len cap i h w) (n : Nat) : CurS B a len cap i h (w.drewN n) := ⟨hc.1.drewN n, hc.2.1, hc.2.2.1, hc.2.2.2⟩
theorem CurS.set2 {B : Nat} {a : Option Addr} {len cap i : Nat} {h : Int} {w : World} (hc : CurS B a len cap i h w) (v : Int) : CurS B a len cap i v (w.setCell ⟨B, 2, none⟩ (.int .i64 v)) :=
  ⟨hc.1.set2 v, hc.2.1, (World.cell?_setCell_other _ _ _ _ (by simp)).trans hc.2.2.1, World.cell?_setCell_same _ _ _ hc.2.2.2⟩
theorem CurS.set1 {B : Nat} {a : Option Addr} {len cap i : Nat} {h : Int} {w : World} (hc : CurS B a len cap i h w) (j : Nat) (hj : j ≤ len) : CurS B a len cap j h (w.setCell ⟨B, 1, none⟩ (.int .i64 j)) :=
  ⟨hc.1.set1 j hj, hj, World.cell?_setCell_same _ _ _ hc.2.2.1, (World.cell?_setCell_other _ _ _ _ (by simp)).trans hc.2.2.2⟩

/-- how a draw leaves the cursor: one byte of the code is read, or none is left and the byte is known -/
def Went (len i j : Nat) (h : Int) (x : Nat) : Prop := (i < len ∧ j = i + 1) ∨ (i = len ∧ j = i ∧ x = draw (Lcg.next h))

set_option maxHeartbeats 2000000 in
theorem byteT (B : Nat) (a : Option Addr) (len cap i : Nat) (h : Int) (w : World) (hc : CurS B a len cap i h w) :
    Calls Try.prog 57 #[.pointer (some ⟨B, 0, none⟩)] w fun e w' => ∃ x j : Nat, x ≤ 255 ∧ Went len i j h x ∧ e = .returned (.int .i64 x) ∧ CurS B a len cap j (Lcg.next h) w' ∧ Only B w w' := by
  obtain ⟨⟨hB, c0, _, _, f1, f2, row, hle, hcp⟩, hi, c1, c2⟩ := id hc
  go_enter Try.func57, Try.ntmps57
  go_wp2
  have hcur := hc.set2 (wrap64 (wrap64 (h * 6364136223846793005) + 1442695040888963407))
  have hon : Only B w _ := (Only.refl B w).setCell (p := ⟨B, 2, none⟩) rfl (.int .i64 (wrap64 (wrap64 (h * 6364136223846793005) + 1442695040888963407)))
  obtain ⟨v, hv⟩ : ∃ v, wrap64 (wrap64 (h * 6364136223846793005) + 1442695040888963407) = v := ⟨_, rfl⟩
  have HV : Hid (Lcg.next h = v) := hide hv
  rw [hv] at hcur hon ⊢
  clear hv
  generalize w.setCell ⟨B, 2, none⟩ (.int .i64 v) = w1 at *
  have HON := hide hon
  have HC := hide hcur
  clear hc hB c0 c1 c2 f1 f2 row hon
  obtain ⟨⟨hB, c0, _, _, f1, f2, row, _, _⟩, _, c1, c2⟩ := hcur
  go_quiet (fail)
  go_wp2
  obtain ⟨hx0, hx1⟩ := and255 (bits BinOp.xor IntKind.i64 (v / 8589934592) (v / 35184372088832))
  obtain ⟨x, hx⟩ : ∃ x, bits BinOp.and IntKind.i64 (bits BinOp.xor IntKind.i64 (v / 8589934592) (v / 35184372088832)) 255 = x := ⟨_, rfl⟩
  have HX : Hid (draw v = x.toNat) := hide (by unfold draw; rw [hx])
  rw [hx] at hx0 hx1
  simp only [hx]
  clear hx
  have HON2 : Hid (Only B w (w1.drewN nq)) := hide (HON.out.drewN nq)
  have HC2 := hide (HC.out.drewN nq)
  have c0' : (w1.drewN nq).cell? ⟨B, 0, none⟩ = some (.slice a len cap) := c0
  have c1' : (w1.drewN nq).cell? ⟨B, 1, none⟩ = some (.int .i64 i) := c1
  have f1' : (w1.drewN nq).frozen? ⟨B, 1, none⟩ = false := f1
  have row' := row.only hB ((Only.refl B w1).drewN nq)
  generalize w1.drewN nq = w2 at *
  clear HON HC hB c0 c1 c2 f1 f2 row
  by_cases hil : (i : Int) < (len : Int)
  · rcases row' with h0 | ⟨b, off, rfl, hb, hr⟩
    · omega
    obtain ⟨z, hz, hcz⟩ := hr i (by omega)
    have hcz' : w2.cell? ⟨b, off + i, none⟩ = some (.int .u8 z) := hcz
    clear hr hcz
    go_quiet (fail)
    go_wp2
    go_quiet (fail)
    go_wp2
    go_ret
    obtain ⟨q0, q1⟩ := and255 (x + z)
    generalize bits BinOp.and IntKind.i64 (x + z) 255 = y at *
    have hcs := fun m => (HC2.out.drewN m).set1 (i + 1) (by omega)
    have ei : ((i + 1 : Nat) : Int) = (i : Int) + 1 := rfl
    simp only [ei] at hcs
    rw [HV.out]
    exact ⟨y.toNat, i + 1, by omega, .inl ⟨by omega, rfl⟩, ret_int (by omega), hcs _, (HON2.out.drewN _).setCell rfl _⟩
  · go_quiet (fail)
    go_wp2
    go_ret
    rw [HV.out]
    exact ⟨x.toNat, by omega, i, .inr ⟨by omega, rfl, by rw [HV.out, HX.out]⟩, ret_int (by omega), HC2.out.drewN _, HON2.out.drewN _⟩

set_option maxHeartbeats 1000000 in
theorem belowT (B : Nat) (a : Option Addr) (len cap i : Nat) (h : Int) (w : World) (hc : CurS B a len cap i h w) (n : Int) (h0 : 0 < n) (h1 : n ≤ 256) :
    Calls Try.prog 41 #[.pointer (some ⟨B, 0, none⟩), .int .i64 n] w fun e w' => ∃ x j : Nat, Went len i j h x ∧ e = .returned (.int .i64 ((x : Int) % n)) ∧ CurS B a len cap j (Lcg.next h) w' ∧ Only B w w' := by
  have HC := hide hc
  clear hc
  go_enter Try.func41, Try.ntmps41
  go_wp2_with fail
  refine (byteT B a len cap i h _ HC.out).mono ?_
  rintro e w1 ⟨x, j, hx, hw, rfl, hc1, ho1⟩
  have HC1 := hide hc1
  have HO1 := hide ho1
  have HW := hide hw
  clear hc1 ho1 hw
  go_wp2
  go_ret
  exact ⟨x, j, HW.out, rfl, HC1.out, HO1.out⟩
end Go.Proofs.Ythjglbimkfajlaa
