/- Turn of both at any matrix, and the walk of the exact law of Turn. -/
import Derived.Test.YteljkjpcjjiidaaTurnL
import Derived.Test.YteljkjpcjjiidaaGo
import Derived.Deep.RegionHeld3
namespace Go.Proofs.Yteljkjpcjjiidaa
open Go.RowKit
set_option linter.unusedVariables false
set_option maxRecDepth 20000

/-- what Turn answers -/
def tuR (x y : Int) (n : Nat) (E : Nat → Bool × List Nat) : Int := if matB x y n E then y else 0
def tuC (x y : Int) (n : Nat) (E : Nat → Bool × List Nat) : Int := if matB x y n E then x else 0
def tuN (x y : Int) (n : Nat) (E : Nat → Bool × List Nat) : Nat := if matB x y n E then n else 0
theorem mat_nats {x y : Int} {n : Nat} {E : Nat → Bool × List Nat} (h : matB x y n E = true) : ∃ R C : Nat, x = (R : Int) ∧ y = (C : Int) ∧ R ≤ 8 ∧ C ≤ 8 ∧ n = R * C ∧ C * R = n := by
  obtain ⟨⟨h1, h2⟩, ⟨h3, h4⟩, h5, _⟩ := matB_iff.1 h
  obtain ⟨R, rfl⟩ : ∃ R : Nat, x = (R : Int) := ⟨x.toNat, by omega⟩
  obtain ⟨C, rfl⟩ : ∃ C : Nat, y = (C : Int) := ⟨y.toNat, by omega⟩
  have h6 : n = R * C := Int.ofNat_inj.1 (by rw [h5]; push_cast; rfl)
  exact ⟨R, C, rfl, rfl, by omega, by omega, h6, by rw [h6, Nat.mul_comm]⟩
theorem turnSA (x y : Int) (a : Option Addr) (n cap : Nat) (X : Nat → Prop) (E : Nat → Bool × List Nat) (w : World) (hs : BSeg w X a n cap E) (hn : n ≤ 1048576) :
    Calls Try.prog 25 #[.agg #[.int .i64 x, .int .i64 y, .slice a n cap]] w fun e w' => ∃ a5 p5, e = .returned (.agg #[.int .i64 (tuR x y n E), .int .i64 (tuC x y n E), .slice a5 (tuN x y n E) p5]) ∧ BSeg w' (fun b => w.heap.size ≤ b ∧ b < w'.heap.size) a5 (tuN x y n E) p5 (tr x.toNat y.toNat E) ∧ Below w.heap.size w w' := by
  unfold tuR tuC tuN
  cases hx : matB x y n E with
  | false => exact (turnS_no x y a n cap X E w hs hn hx).mono fun e w' ⟨he, hb⟩ => ⟨none, 0, he, ⟨Nat.le_refl _, by omega, .inl rfl⟩, hb⟩
  | true =>
    obtain ⟨R, C, rfl, rfl, h1, h2, h3, h4⟩ := mat_nats hx
    have := turnS_yes R C a n cap X E w hs hx
    rw [h4] at this
    exact this
theorem turnIA (x y : Int) (a : Option Addr) (n cap : Nat) (X : Nat → Prop) (E : Nat → Bool × List Nat) (w : World) (hs : BSeg w X a n cap E) (hn : n ≤ 1048576) :
    Calls Try.prog 26 #[.agg #[.int .i64 x, .int .i64 y, .slice a n cap]] w fun e w' => ∃ v, e = .returned (.agg #[.int .i64 (tuR x y n E), .int .i64 (tuC x y n E), v]) ∧ GOwn w' w.heap.size w'.heap.size v (tuN x y n E) (tr x.toNat y.toNat E) ∧ Below w.heap.size w w' := by
  unfold tuR tuC tuN
  cases hx : matB x y n E with
  | false => exact (turnI_no x y a n cap X E w hs hn hx).mono fun e w' ⟨he, hb⟩ => ⟨_, he, .inl ⟨rfl, rfl⟩, hb⟩
  | true =>
    have hz := mat_num hs hx
    obtain ⟨R, C, rfl, rfl, h1, h2, h3, h4⟩ := mat_nats hx
    have := turnI_yes R C a n cap X E w hs hx (fun j hj => by rw [(hz j hj).1]; exact Nat.le_trans (hz j hj).2 (by decide))
    rw [h4] at this
    exact this.mono fun e w' ⟨g, A, he, ho, hb⟩ => ⟨_, he, ho.g, hb⟩
theorem etot_8 {E : Nat → Bool × List Nat} : ∀ {n : Nat}, (∀ j, j < n → (E j).2.length ≤ 8) → etot E n ≤ 8 * n
  | 0, _ => by simp [etot]
  | n + 1, h => by
    have := etot_8 (fun j (hj : j < n) => h j (by omega))
    have h2 := h n (by omega)
    simp only [etot]; omega
theorem turn_small (x y : Int) (n : Nat) (E : Nat → Bool × List Nat) : 1 + tuN x y n E + etot (tr x.toNat y.toNat E) (tuN x y n E) ≤ 1000 := by
  unfold tuN
  cases hx : matB x y n E with
  | false => simp [etot]
  | true =>
    have h6 := (matB_iff.1 hx).2.2.2
    obtain ⟨R, C, rfl, rfl, h1, h2, h3, h4⟩ := mat_nats hx
    have hn : n ≤ 64 := by rw [h3]; exact Nat.mul_le_mul h1 h2
    have := etot_8 (E := tr ((R : Int)).toNat ((C : Int)).toNat E) (n := n) (fun j hj => by
      have h7 : trI R C j < n := by have := trI_lt (R := R) (C := C) (i := j) (by omega); omega
      have h8 := h6 _ h7
      unfold entB at h8
      rw [Bool.and_eq_true] at h8
      exact of_decide_eq_true h8.2)
    simp only [if_true]
    omega

set_option maxHeartbeats 8000000 in
set_option maxRecDepth 20000 in
theorem walkTurn (x y : Int) (a : Option Addr) (n cap : Nat) (E : Nat → Bool × List Nat) (w : World) (hs : BSeg w (fun _ => True) a n cap E) :
    Calls Try.prog 6 #[Value.agg #[Value.int .i64 x, Value.int .i64 y, Value.slice a n cap]] w fun e w' => e = .returned (.bool true) ∧ Below w.heap.size w w' := by
  have HS := hide hs
  clear hs
  have Xa : Hid ((w.alloc (Obj.cells #[Value.int .i64 x, Value.int .i64 y, Value.slice a n cap] 24)).heap[w.heap.size]? = some (.cells #[Value.int .i64 x, Value.int .i64 y, Value.slice a n cap] 24 (0, 0))) := hide (by simpa only [World.size_alloc] using (hnew w (Obj.cells #[Value.int .i64 x, Value.int .i64 y, Value.slice a n cap] 24)))
  have HB : Hid (Below w.heap.size w (w.alloc (Obj.cells #[Value.int .i64 x, Value.int .i64 y, Value.slice a n cap] 24))) := hide (bl_alloc (bl_refl w) (Obj.cells #[Value.int .i64 x, Value.int .i64 y, Value.slice a n cap] 24))
  have yw1 : w.heap.size + 1 ≤ (w.alloc (Obj.cells #[Value.int .i64 x, Value.int .i64 y, Value.slice a n cap] 24)).heap.size := by simp only [World.size_alloc]; omega
  have ka0 : (w.alloc (Obj.cells #[Value.int .i64 x, Value.int .i64 y, Value.slice a n cap] 24)).cell? ⟨w.heap.size, 0, none⟩ = some (Value.int .i64 x) := (Lib.cell_of_heap Xa.out 0).trans rfl
  have fa0 : (w.alloc (Obj.cells #[Value.int .i64 x, Value.int .i64 y, Value.slice a n cap] 24)).frozen? ⟨w.heap.size, 0, none⟩ = false := Lib.frozen_of_heap Xa.out 0
  have ka1 : (w.alloc (Obj.cells #[Value.int .i64 x, Value.int .i64 y, Value.slice a n cap] 24)).cell? ⟨w.heap.size, 1, none⟩ = some (Value.int .i64 y) := (Lib.cell_of_heap Xa.out 1).trans rfl
  have fa1 : (w.alloc (Obj.cells #[Value.int .i64 x, Value.int .i64 y, Value.slice a n cap] 24)).frozen? ⟨w.heap.size, 1, none⟩ = false := Lib.frozen_of_heap Xa.out 1
  have ka2 : (w.alloc (Obj.cells #[Value.int .i64 x, Value.int .i64 y, Value.slice a n cap] 24)).cell? ⟨w.heap.size, 2, none⟩ = some (Value.slice a n cap) := (Lib.cell_of_heap Xa.out 2).trans rfl
  have fa2 : (w.alloc (Obj.cells #[Value.int .i64 x, Value.int .i64 y, Value.slice a n cap] 24)).frozen? ⟨w.heap.size, 2, none⟩ = false := Lib.frozen_of_heap Xa.out 2
  have za : w.heap.size < (w.alloc (Obj.cells #[Value.int .i64 x, Value.int .i64 y, Value.slice a n cap] 24)).heap.size := hlt Xa.out
  go_enter Try.func6, Try.ntmps6
  go_wp2_with fail
  generalize (w.alloc (Obj.cells #[Value.int .i64 x, Value.int .i64 y, Value.slice a n cap] 24)) = w1 at *
  refine (szM x y a n cap _ E 1048576 _ (HS.out.below HB.out) (by omega) (by omega)).mono ?_
  rintro e w2 ⟨rfl, hb⟩
  have yw2 := hb.size
  clear ka0 fa0 ka1 fa1 ka2 fa2 za
  replace Xa := hide (hbel Xa.out hb (by first | assumption | omega))
  replace HB := hide (bl_trans HB.out hb)
  clear hb
  have ka0 : w2.cell? ⟨w.heap.size, 0, none⟩ = some (Value.int .i64 x) := (Lib.cell_of_heap Xa.out 0).trans rfl
  have fa0 : w2.frozen? ⟨w.heap.size, 0, none⟩ = false := Lib.frozen_of_heap Xa.out 0
  have ka1 : w2.cell? ⟨w.heap.size, 1, none⟩ = some (Value.int .i64 y) := (Lib.cell_of_heap Xa.out 1).trans rfl
  have fa1 : w2.frozen? ⟨w.heap.size, 1, none⟩ = false := Lib.frozen_of_heap Xa.out 1
  have ka2 : w2.cell? ⟨w.heap.size, 2, none⟩ = some (Value.slice a n cap) := (Lib.cell_of_heap Xa.out 2).trans rfl
  have fa2 : w2.frozen? ⟨w.heap.size, 2, none⟩ = false := Lib.frozen_of_heap Xa.out 2
  have za : w.heap.size < w2.heap.size := hlt Xa.out
  by_cases hz : (1048576 : Int) < ((n + etot E n : Nat) : Int)
  · have HE : bleft 1048576 (n + etot E n) = -1 := by unfold bleft; rw [if_pos hz]
    rw [HE]
    clear HE
    go_wp2
    go_ret
    exact ⟨rfl, HB.out⟩
  have HE : bleft 1048576 (n + etot E n) = 1048576 - ((n + etot E n : Nat) : Int) := by unfold bleft; rw [if_neg hz]
  have hn2 : n ≤ 1048576 := by omega
  have ht : etot E n ≤ 1048576 := by omega
  have hz0 : ¬ 1048576 - ((n + etot E n : Nat) : Int) < 0 := by omega
  rw [HE]
  clear HE hz
  have HT := hide ht
  have HTA : Hid (1 + n + etot E n ≤ 3000000) := hide (by omega)
  clear ht
  generalize ((n + etot E n : Nat) : Int) = z at *
  have HSS := hide (fun a' p X w h => turnSA x y a' n p X E w h hn2)
  have HII := hide (fun a' p X w h => turnIA x y a' n p X E w h hn2)
  have hsm := turn_small x y n E
  generalize tuR x y n E = R2 at *
  generalize tuC x y n E = C2 at *
  generalize tuN x y n E = n2 at *
  generalize tr x.toNat y.toNat E = E2 at *
  obtain ⟨T, hT⟩ : ∃ T, 1 + n2 + etot E2 n2 = T := ⟨_, rfl⟩
  have HTT := hide hT
  have HTm : Hid (1 + n2 + etot E2 n2 ≤ 3000000) := hide (by omega)
  obtain ⟨T1, hT1⟩ : ∃ T1, 1 + n + etot E n = T1 := ⟨_, rfl⟩
  have HT1 := hide hT1
  clear hT hT1 hsm
  go_wp2_with fail
  refine (toM x y a n cap _ E w2 (HS.out.below HB.out) hn2 HT.out).mono ?_
  rintro e w3 ⟨g1, A1, rfl, hx1, hb⟩
  have yw3 := hb.size
  clear ka0 fa0 ka1 fa1 ka2 fa2 za
  replace Xa := hide (hbel Xa.out hb (by first | assumption | omega))
  replace HB := hide (bl_trans HB.out hb)
  clear hb
  have M1 := hide hx1.g
  clear hx1
  have ka0 : w3.cell? ⟨w.heap.size, 0, none⟩ = some (Value.int .i64 x) := (Lib.cell_of_heap Xa.out 0).trans rfl
  have fa0 : w3.frozen? ⟨w.heap.size, 0, none⟩ = false := Lib.frozen_of_heap Xa.out 0
  have ka1 : w3.cell? ⟨w.heap.size, 1, none⟩ = some (Value.int .i64 y) := (Lib.cell_of_heap Xa.out 1).trans rfl
  have fa1 : w3.frozen? ⟨w.heap.size, 1, none⟩ = false := Lib.frozen_of_heap Xa.out 1
  have ka2 : w3.cell? ⟨w.heap.size, 2, none⟩ = some (Value.slice a n cap) := (Lib.cell_of_heap Xa.out 2).trans rfl
  have fa2 : w3.frozen? ⟨w.heap.size, 2, none⟩ = false := Lib.frozen_of_heap Xa.out 2
  have za : w.heap.size < w3.heap.size := hlt Xa.out
  go_wp2_with fail
  refine (HSS.out _ _ _ w3 (by obtain ⟨u1, u2, u3, u4⟩ := M1.out.seg; cases u3; exact u4)).mono ?_
  rintro e w4 ⟨aS, pS, rfl, hsS, hb⟩
  have yw4 := hb.size
  clear ka0 fa0 ka1 fa1 ka2 fa2 za
  replace Xa := hide (hbel Xa.out hb (by first | assumption | omega))
  replace M1 := hide (M1.out.below hb)
  replace HB := hide (bl_trans HB.out hb)
  clear hb
  have SS := hide hsS
  clear hsS
  have ka0 : w4.cell? ⟨w.heap.size, 0, none⟩ = some (Value.int .i64 x) := (Lib.cell_of_heap Xa.out 0).trans rfl
  have fa0 : w4.frozen? ⟨w.heap.size, 0, none⟩ = false := Lib.frozen_of_heap Xa.out 0
  have ka1 : w4.cell? ⟨w.heap.size, 1, none⟩ = some (Value.int .i64 y) := (Lib.cell_of_heap Xa.out 1).trans rfl
  have fa1 : w4.frozen? ⟨w.heap.size, 1, none⟩ = false := Lib.frozen_of_heap Xa.out 1
  have ka2 : w4.cell? ⟨w.heap.size, 2, none⟩ = some (Value.slice a n cap) := (Lib.cell_of_heap Xa.out 2).trans rfl
  have fa2 : w4.frozen? ⟨w.heap.size, 2, none⟩ = false := Lib.frozen_of_heap Xa.out 2
  have za : w.heap.size < w4.heap.size := hlt Xa.out
  clear M1
  go_wp2_with fail
  have Xs : Hid ((w4.alloc (Obj.cells #[Value.int .i64 R2, Value.int .i64 C2, Value.slice aS n2 pS] 29)).heap[w4.heap.size]? = some (.cells #[Value.int .i64 R2, Value.int .i64 C2, Value.slice aS n2 pS] 29 (0, 0))) := hide (hnew _ _)
  have hbn := (bl_alloc (bl_refl w4) (Obj.cells #[Value.int .i64 R2, Value.int .i64 C2, Value.slice aS n2 pS] 29))
  have yw5 : w4.heap.size + 1 ≤ (w4.alloc (Obj.cells #[Value.int .i64 R2, Value.int .i64 C2, Value.slice aS n2 pS] 29)).heap.size := by simp only [World.size_alloc]; omega
  generalize w4.alloc (Obj.cells #[Value.int .i64 R2, Value.int .i64 C2, Value.slice aS n2 pS] 29) = w5 at *
  clear ka0 fa0 ka1 fa1 ka2 fa2 za
  replace Xa := hide (hbel Xa.out hbn (by first | assumption | omega))
  replace SS := hide (SS.out.below hbn)
  replace HB := hide (bl_trans HB.out hbn)
  clear hbn
  have ka0 : w5.cell? ⟨w.heap.size, 0, none⟩ = some (Value.int .i64 x) := (Lib.cell_of_heap Xa.out 0).trans rfl
  have fa0 : w5.frozen? ⟨w.heap.size, 0, none⟩ = false := Lib.frozen_of_heap Xa.out 0
  have ka1 : w5.cell? ⟨w.heap.size, 1, none⟩ = some (Value.int .i64 y) := (Lib.cell_of_heap Xa.out 1).trans rfl
  have fa1 : w5.frozen? ⟨w.heap.size, 1, none⟩ = false := Lib.frozen_of_heap Xa.out 1
  have ka2 : w5.cell? ⟨w.heap.size, 2, none⟩ = some (Value.slice a n cap) := (Lib.cell_of_heap Xa.out 2).trans rfl
  have fa2 : w5.frozen? ⟨w.heap.size, 2, none⟩ = false := Lib.frozen_of_heap Xa.out 2
  have za : w.heap.size < w5.heap.size := hlt Xa.out
  have ks0 : w5.cell? ⟨w4.heap.size, 0, none⟩ = some (Value.int .i64 R2) := (Lib.cell_of_heap Xs.out 0).trans rfl
  have fs0 : w5.frozen? ⟨w4.heap.size, 0, none⟩ = false := Lib.frozen_of_heap Xs.out 0
  have ks1 : w5.cell? ⟨w4.heap.size, 1, none⟩ = some (Value.int .i64 C2) := (Lib.cell_of_heap Xs.out 1).trans rfl
  have fs1 : w5.frozen? ⟨w4.heap.size, 1, none⟩ = false := Lib.frozen_of_heap Xs.out 1
  have ks2 : w5.cell? ⟨w4.heap.size, 2, none⟩ = some (Value.slice aS n2 pS) := (Lib.cell_of_heap Xs.out 2).trans rfl
  have fs2 : w5.frozen? ⟨w4.heap.size, 2, none⟩ = false := Lib.frozen_of_heap Xs.out 2
  have zs : w4.heap.size < w5.heap.size := hlt Xs.out
  refine (toM x y a n cap _ E w5 (HS.out.below HB.out) hn2 HT.out).mono ?_
  rintro e w6 ⟨g2, A2, rfl, hx2, hb⟩
  have yw6 := hb.size
  clear ka0 fa0 ka1 fa1 ka2 fa2 za
  clear ks0 fs0 ks1 fs1 ks2 fs2 zs
  replace Xa := hide (hbel Xa.out hb (by first | assumption | omega))
  replace Xs := hide (hbel Xs.out hb (by first | assumption | omega))
  replace SS := hide (SS.out.below hb)
  replace HB := hide (bl_trans HB.out hb)
  clear hb
  have M2 := hide hx2.g
  clear hx2
  have ka0 : w6.cell? ⟨w.heap.size, 0, none⟩ = some (Value.int .i64 x) := (Lib.cell_of_heap Xa.out 0).trans rfl
  have fa0 : w6.frozen? ⟨w.heap.size, 0, none⟩ = false := Lib.frozen_of_heap Xa.out 0
  have ka1 : w6.cell? ⟨w.heap.size, 1, none⟩ = some (Value.int .i64 y) := (Lib.cell_of_heap Xa.out 1).trans rfl
  have fa1 : w6.frozen? ⟨w.heap.size, 1, none⟩ = false := Lib.frozen_of_heap Xa.out 1
  have ka2 : w6.cell? ⟨w.heap.size, 2, none⟩ = some (Value.slice a n cap) := (Lib.cell_of_heap Xa.out 2).trans rfl
  have fa2 : w6.frozen? ⟨w.heap.size, 2, none⟩ = false := Lib.frozen_of_heap Xa.out 2
  have za : w.heap.size < w6.heap.size := hlt Xa.out
  have ks0 : w6.cell? ⟨w4.heap.size, 0, none⟩ = some (Value.int .i64 R2) := (Lib.cell_of_heap Xs.out 0).trans rfl
  have fs0 : w6.frozen? ⟨w4.heap.size, 0, none⟩ = false := Lib.frozen_of_heap Xs.out 0
  have ks1 : w6.cell? ⟨w4.heap.size, 1, none⟩ = some (Value.int .i64 C2) := (Lib.cell_of_heap Xs.out 1).trans rfl
  have fs1 : w6.frozen? ⟨w4.heap.size, 1, none⟩ = false := Lib.frozen_of_heap Xs.out 1
  have ks2 : w6.cell? ⟨w4.heap.size, 2, none⟩ = some (Value.slice aS n2 pS) := (Lib.cell_of_heap Xs.out 2).trans rfl
  have fs2 : w6.frozen? ⟨w4.heap.size, 2, none⟩ = false := Lib.frozen_of_heap Xs.out 2
  have zs : w4.heap.size < w6.heap.size := hlt Xs.out
  go_wp2_with fail
  have Xx : Hid ((w6.alloc (Obj.cells #[Value.int .i64 x, Value.int .i64 y, Value.slice (some ⟨g2, 0, none⟩) n n] 29)).heap[w6.heap.size]? = some (.cells #[Value.int .i64 x, Value.int .i64 y, Value.slice (some ⟨g2, 0, none⟩) n n] 29 (0, 0))) := hide (hnew _ _)
  have hbn := (bl_alloc (bl_refl w6) (Obj.cells #[Value.int .i64 x, Value.int .i64 y, Value.slice (some ⟨g2, 0, none⟩) n n] 29))
  have yw7 : w6.heap.size + 1 ≤ (w6.alloc (Obj.cells #[Value.int .i64 x, Value.int .i64 y, Value.slice (some ⟨g2, 0, none⟩) n n] 29)).heap.size := by simp only [World.size_alloc]; omega
  generalize w6.alloc (Obj.cells #[Value.int .i64 x, Value.int .i64 y, Value.slice (some ⟨g2, 0, none⟩) n n] 29) = w7 at *
  clear ka0 fa0 ka1 fa1 ka2 fa2 za
  clear ks0 fs0 ks1 fs1 ks2 fs2 zs
  replace Xa := hide (hbel Xa.out hbn (by first | assumption | omega))
  replace Xs := hide (hbel Xs.out hbn (by first | assumption | omega))
  replace SS := hide (SS.out.below hbn)
  replace M2 := hide (M2.out.below hbn)
  replace HB := hide (bl_trans HB.out hbn)
  clear hbn
  have ka0 : w7.cell? ⟨w.heap.size, 0, none⟩ = some (Value.int .i64 x) := (Lib.cell_of_heap Xa.out 0).trans rfl
  have fa0 : w7.frozen? ⟨w.heap.size, 0, none⟩ = false := Lib.frozen_of_heap Xa.out 0
  have ka1 : w7.cell? ⟨w.heap.size, 1, none⟩ = some (Value.int .i64 y) := (Lib.cell_of_heap Xa.out 1).trans rfl
  have fa1 : w7.frozen? ⟨w.heap.size, 1, none⟩ = false := Lib.frozen_of_heap Xa.out 1
  have ka2 : w7.cell? ⟨w.heap.size, 2, none⟩ = some (Value.slice a n cap) := (Lib.cell_of_heap Xa.out 2).trans rfl
  have fa2 : w7.frozen? ⟨w.heap.size, 2, none⟩ = false := Lib.frozen_of_heap Xa.out 2
  have za : w.heap.size < w7.heap.size := hlt Xa.out
  have ks0 : w7.cell? ⟨w4.heap.size, 0, none⟩ = some (Value.int .i64 R2) := (Lib.cell_of_heap Xs.out 0).trans rfl
  have fs0 : w7.frozen? ⟨w4.heap.size, 0, none⟩ = false := Lib.frozen_of_heap Xs.out 0
  have ks1 : w7.cell? ⟨w4.heap.size, 1, none⟩ = some (Value.int .i64 C2) := (Lib.cell_of_heap Xs.out 1).trans rfl
  have fs1 : w7.frozen? ⟨w4.heap.size, 1, none⟩ = false := Lib.frozen_of_heap Xs.out 1
  have ks2 : w7.cell? ⟨w4.heap.size, 2, none⟩ = some (Value.slice aS n2 pS) := (Lib.cell_of_heap Xs.out 2).trans rfl
  have fs2 : w7.frozen? ⟨w4.heap.size, 2, none⟩ = false := Lib.frozen_of_heap Xs.out 2
  have zs : w4.heap.size < w7.heap.size := hlt Xs.out
  have kx0 : w7.cell? ⟨w6.heap.size, 0, none⟩ = some (Value.int .i64 x) := (Lib.cell_of_heap Xx.out 0).trans rfl
  have fx0 : w7.frozen? ⟨w6.heap.size, 0, none⟩ = false := Lib.frozen_of_heap Xx.out 0
  have kx1 : w7.cell? ⟨w6.heap.size, 1, none⟩ = some (Value.int .i64 y) := (Lib.cell_of_heap Xx.out 1).trans rfl
  have fx1 : w7.frozen? ⟨w6.heap.size, 1, none⟩ = false := Lib.frozen_of_heap Xx.out 1
  have kx2 : w7.cell? ⟨w6.heap.size, 2, none⟩ = some (Value.slice (some ⟨g2, 0, none⟩) n n) := (Lib.cell_of_heap Xx.out 2).trans rfl
  have fx2 : w7.frozen? ⟨w6.heap.size, 2, none⟩ = false := Lib.frozen_of_heap Xx.out 2
  have zx : w6.heap.size < w7.heap.size := hlt Xx.out
  refine (HII.out _ _ _ w7 (by obtain ⟨u1, u2, u3, u4⟩ := M2.out.seg; cases u3; exact u4)).mono ?_
  rintro e w8 ⟨v, rfl, hg, hb⟩
  have yw8 := hb.size
  clear ka0 fa0 ka1 fa1 ka2 fa2 za
  clear ks0 fs0 ks1 fs1 ks2 fs2 zs
  clear kx0 fx0 kx1 fx1 kx2 fx2 zx
  replace Xa := hide (hbel Xa.out hb (by first | assumption | omega))
  replace Xs := hide (hbel Xs.out hb (by first | assumption | omega))
  replace Xx := hide (hbel Xx.out hb (by first | assumption | omega))
  replace SS := hide (SS.out.below hb)
  replace M2 := hide (M2.out.below hb)
  replace HB := hide (bl_trans HB.out hb)
  clear hb
  have GG := hide hg
  clear hg
  have ka0 : w8.cell? ⟨w.heap.size, 0, none⟩ = some (Value.int .i64 x) := (Lib.cell_of_heap Xa.out 0).trans rfl
  have fa0 : w8.frozen? ⟨w.heap.size, 0, none⟩ = false := Lib.frozen_of_heap Xa.out 0
  have ka1 : w8.cell? ⟨w.heap.size, 1, none⟩ = some (Value.int .i64 y) := (Lib.cell_of_heap Xa.out 1).trans rfl
  have fa1 : w8.frozen? ⟨w.heap.size, 1, none⟩ = false := Lib.frozen_of_heap Xa.out 1
  have ka2 : w8.cell? ⟨w.heap.size, 2, none⟩ = some (Value.slice a n cap) := (Lib.cell_of_heap Xa.out 2).trans rfl
  have fa2 : w8.frozen? ⟨w.heap.size, 2, none⟩ = false := Lib.frozen_of_heap Xa.out 2
  have za : w.heap.size < w8.heap.size := hlt Xa.out
  have ks0 : w8.cell? ⟨w4.heap.size, 0, none⟩ = some (Value.int .i64 R2) := (Lib.cell_of_heap Xs.out 0).trans rfl
  have fs0 : w8.frozen? ⟨w4.heap.size, 0, none⟩ = false := Lib.frozen_of_heap Xs.out 0
  have ks1 : w8.cell? ⟨w4.heap.size, 1, none⟩ = some (Value.int .i64 C2) := (Lib.cell_of_heap Xs.out 1).trans rfl
  have fs1 : w8.frozen? ⟨w4.heap.size, 1, none⟩ = false := Lib.frozen_of_heap Xs.out 1
  have ks2 : w8.cell? ⟨w4.heap.size, 2, none⟩ = some (Value.slice aS n2 pS) := (Lib.cell_of_heap Xs.out 2).trans rfl
  have fs2 : w8.frozen? ⟨w4.heap.size, 2, none⟩ = false := Lib.frozen_of_heap Xs.out 2
  have zs : w4.heap.size < w8.heap.size := hlt Xs.out
  have kx0 : w8.cell? ⟨w6.heap.size, 0, none⟩ = some (Value.int .i64 x) := (Lib.cell_of_heap Xx.out 0).trans rfl
  have fx0 : w8.frozen? ⟨w6.heap.size, 0, none⟩ = false := Lib.frozen_of_heap Xx.out 0
  have kx1 : w8.cell? ⟨w6.heap.size, 1, none⟩ = some (Value.int .i64 y) := (Lib.cell_of_heap Xx.out 1).trans rfl
  have fx1 : w8.frozen? ⟨w6.heap.size, 1, none⟩ = false := Lib.frozen_of_heap Xx.out 1
  have kx2 : w8.cell? ⟨w6.heap.size, 2, none⟩ = some (Value.slice (some ⟨g2, 0, none⟩) n n) := (Lib.cell_of_heap Xx.out 2).trans rfl
  have fx2 : w8.frozen? ⟨w6.heap.size, 2, none⟩ = false := Lib.frozen_of_heap Xx.out 2
  have zx : w6.heap.size < w8.heap.size := hlt Xx.out
  obtain ⟨a2, c2, ev, hs2⟩ := GG.out.seg
  subst ev
  clear hs2
  go_wp2_with fail
  have Xg : Hid ((w8.alloc (Obj.cells #[Value.int .i64 R2, Value.int .i64 C2, Value.slice a2 n2 c2] 29)).heap[w8.heap.size]? = some (.cells #[Value.int .i64 R2, Value.int .i64 C2, Value.slice a2 n2 c2] 29 (0, 0))) := hide (hnew _ _)
  have hbn := (bl_alloc (bl_refl w8) (Obj.cells #[Value.int .i64 R2, Value.int .i64 C2, Value.slice a2 n2 c2] 29))
  have yw9 : w8.heap.size + 1 ≤ (w8.alloc (Obj.cells #[Value.int .i64 R2, Value.int .i64 C2, Value.slice a2 n2 c2] 29)).heap.size := by simp only [World.size_alloc]; omega
  generalize w8.alloc (Obj.cells #[Value.int .i64 R2, Value.int .i64 C2, Value.slice a2 n2 c2] 29) = w9 at *
  clear ka0 fa0 ka1 fa1 ka2 fa2 za
  clear ks0 fs0 ks1 fs1 ks2 fs2 zs
  clear kx0 fx0 kx1 fx1 kx2 fx2 zx
  replace Xa := hide (hbel Xa.out hbn (by first | assumption | omega))
  replace Xs := hide (hbel Xs.out hbn (by first | assumption | omega))
  replace Xx := hide (hbel Xx.out hbn (by first | assumption | omega))
  replace SS := hide (SS.out.below hbn)
  replace M2 := hide (M2.out.below hbn)
  replace GG := hide (GG.out.below hbn)
  replace HB := hide (bl_trans HB.out hbn)
  clear hbn
  have ka0 : w9.cell? ⟨w.heap.size, 0, none⟩ = some (Value.int .i64 x) := (Lib.cell_of_heap Xa.out 0).trans rfl
  have fa0 : w9.frozen? ⟨w.heap.size, 0, none⟩ = false := Lib.frozen_of_heap Xa.out 0
  have ka1 : w9.cell? ⟨w.heap.size, 1, none⟩ = some (Value.int .i64 y) := (Lib.cell_of_heap Xa.out 1).trans rfl
  have fa1 : w9.frozen? ⟨w.heap.size, 1, none⟩ = false := Lib.frozen_of_heap Xa.out 1
  have ka2 : w9.cell? ⟨w.heap.size, 2, none⟩ = some (Value.slice a n cap) := (Lib.cell_of_heap Xa.out 2).trans rfl
  have fa2 : w9.frozen? ⟨w.heap.size, 2, none⟩ = false := Lib.frozen_of_heap Xa.out 2
  have za : w.heap.size < w9.heap.size := hlt Xa.out
  have ks0 : w9.cell? ⟨w4.heap.size, 0, none⟩ = some (Value.int .i64 R2) := (Lib.cell_of_heap Xs.out 0).trans rfl
  have fs0 : w9.frozen? ⟨w4.heap.size, 0, none⟩ = false := Lib.frozen_of_heap Xs.out 0
  have ks1 : w9.cell? ⟨w4.heap.size, 1, none⟩ = some (Value.int .i64 C2) := (Lib.cell_of_heap Xs.out 1).trans rfl
  have fs1 : w9.frozen? ⟨w4.heap.size, 1, none⟩ = false := Lib.frozen_of_heap Xs.out 1
  have ks2 : w9.cell? ⟨w4.heap.size, 2, none⟩ = some (Value.slice aS n2 pS) := (Lib.cell_of_heap Xs.out 2).trans rfl
  have fs2 : w9.frozen? ⟨w4.heap.size, 2, none⟩ = false := Lib.frozen_of_heap Xs.out 2
  have zs : w4.heap.size < w9.heap.size := hlt Xs.out
  have kx0 : w9.cell? ⟨w6.heap.size, 0, none⟩ = some (Value.int .i64 x) := (Lib.cell_of_heap Xx.out 0).trans rfl
  have fx0 : w9.frozen? ⟨w6.heap.size, 0, none⟩ = false := Lib.frozen_of_heap Xx.out 0
  have kx1 : w9.cell? ⟨w6.heap.size, 1, none⟩ = some (Value.int .i64 y) := (Lib.cell_of_heap Xx.out 1).trans rfl
  have fx1 : w9.frozen? ⟨w6.heap.size, 1, none⟩ = false := Lib.frozen_of_heap Xx.out 1
  have kx2 : w9.cell? ⟨w6.heap.size, 2, none⟩ = some (Value.slice (some ⟨g2, 0, none⟩) n n) := (Lib.cell_of_heap Xx.out 2).trans rfl
  have fx2 : w9.frozen? ⟨w6.heap.size, 2, none⟩ = false := Lib.frozen_of_heap Xx.out 2
  have zx : w6.heap.size < w9.heap.size := hlt Xx.out
  have kg0 : w9.cell? ⟨w8.heap.size, 0, none⟩ = some (Value.int .i64 R2) := (Lib.cell_of_heap Xg.out 0).trans rfl
  have fg0 : w9.frozen? ⟨w8.heap.size, 0, none⟩ = false := Lib.frozen_of_heap Xg.out 0
  have kg1 : w9.cell? ⟨w8.heap.size, 1, none⟩ = some (Value.int .i64 C2) := (Lib.cell_of_heap Xg.out 1).trans rfl
  have fg1 : w9.frozen? ⟨w8.heap.size, 1, none⟩ = false := Lib.frozen_of_heap Xg.out 1
  have kg2 : w9.cell? ⟨w8.heap.size, 2, none⟩ = some (Value.slice a2 n2 c2) := (Lib.cell_of_heap Xg.out 2).trans rfl
  have fg2 : w9.frozen? ⟨w8.heap.size, 2, none⟩ = false := Lib.frozen_of_heap Xg.out 2
  have zg : w8.heap.size < w9.heap.size := hlt Xg.out
  refine (eqM R2 C2 a2 aS n2 c2 pS _ _ E2 w9 (by obtain ⟨u1, u2, u3, u4⟩ := GG.out.seg; cases u3; exact u4) SS.out).mono ?_
  rintro e w10 ⟨rfl, hb⟩
  have yw10 := hb.size
  clear ka0 fa0 ka1 fa1 ka2 fa2 za
  clear ks0 fs0 ks1 fs1 ks2 fs2 zs
  clear kx0 fx0 kx1 fx1 kx2 fx2 zx
  clear kg0 fg0 kg1 fg1 kg2 fg2 zg
  replace Xa := hide (hbel Xa.out hb (by first | assumption | omega))
  replace Xs := hide (hbel Xs.out hb (by first | assumption | omega))
  replace Xx := hide (hbel Xx.out hb (by first | assumption | omega))
  replace Xg := hide (hbel Xg.out hb (by first | assumption | omega))
  replace SS := hide (SS.out.below hb)
  replace M2 := hide (M2.out.below hb)
  replace GG := hide (GG.out.below hb)
  replace HB := hide (bl_trans HB.out hb)
  clear hb
  have ka0 : w10.cell? ⟨w.heap.size, 0, none⟩ = some (Value.int .i64 x) := (Lib.cell_of_heap Xa.out 0).trans rfl
  have fa0 : w10.frozen? ⟨w.heap.size, 0, none⟩ = false := Lib.frozen_of_heap Xa.out 0
  have ka1 : w10.cell? ⟨w.heap.size, 1, none⟩ = some (Value.int .i64 y) := (Lib.cell_of_heap Xa.out 1).trans rfl
  have fa1 : w10.frozen? ⟨w.heap.size, 1, none⟩ = false := Lib.frozen_of_heap Xa.out 1
  have ka2 : w10.cell? ⟨w.heap.size, 2, none⟩ = some (Value.slice a n cap) := (Lib.cell_of_heap Xa.out 2).trans rfl
  have fa2 : w10.frozen? ⟨w.heap.size, 2, none⟩ = false := Lib.frozen_of_heap Xa.out 2
  have za : w.heap.size < w10.heap.size := hlt Xa.out
  have ks0 : w10.cell? ⟨w4.heap.size, 0, none⟩ = some (Value.int .i64 R2) := (Lib.cell_of_heap Xs.out 0).trans rfl
  have fs0 : w10.frozen? ⟨w4.heap.size, 0, none⟩ = false := Lib.frozen_of_heap Xs.out 0
  have ks1 : w10.cell? ⟨w4.heap.size, 1, none⟩ = some (Value.int .i64 C2) := (Lib.cell_of_heap Xs.out 1).trans rfl
  have fs1 : w10.frozen? ⟨w4.heap.size, 1, none⟩ = false := Lib.frozen_of_heap Xs.out 1
  have ks2 : w10.cell? ⟨w4.heap.size, 2, none⟩ = some (Value.slice aS n2 pS) := (Lib.cell_of_heap Xs.out 2).trans rfl
  have fs2 : w10.frozen? ⟨w4.heap.size, 2, none⟩ = false := Lib.frozen_of_heap Xs.out 2
  have zs : w4.heap.size < w10.heap.size := hlt Xs.out
  have kx0 : w10.cell? ⟨w6.heap.size, 0, none⟩ = some (Value.int .i64 x) := (Lib.cell_of_heap Xx.out 0).trans rfl
  have fx0 : w10.frozen? ⟨w6.heap.size, 0, none⟩ = false := Lib.frozen_of_heap Xx.out 0
  have kx1 : w10.cell? ⟨w6.heap.size, 1, none⟩ = some (Value.int .i64 y) := (Lib.cell_of_heap Xx.out 1).trans rfl
  have fx1 : w10.frozen? ⟨w6.heap.size, 1, none⟩ = false := Lib.frozen_of_heap Xx.out 1
  have kx2 : w10.cell? ⟨w6.heap.size, 2, none⟩ = some (Value.slice (some ⟨g2, 0, none⟩) n n) := (Lib.cell_of_heap Xx.out 2).trans rfl
  have fx2 : w10.frozen? ⟨w6.heap.size, 2, none⟩ = false := Lib.frozen_of_heap Xx.out 2
  have zx : w6.heap.size < w10.heap.size := hlt Xx.out
  have kg0 : w10.cell? ⟨w8.heap.size, 0, none⟩ = some (Value.int .i64 R2) := (Lib.cell_of_heap Xg.out 0).trans rfl
  have fg0 : w10.frozen? ⟨w8.heap.size, 0, none⟩ = false := Lib.frozen_of_heap Xg.out 0
  have kg1 : w10.cell? ⟨w8.heap.size, 1, none⟩ = some (Value.int .i64 C2) := (Lib.cell_of_heap Xg.out 1).trans rfl
  have fg1 : w10.frozen? ⟨w8.heap.size, 1, none⟩ = false := Lib.frozen_of_heap Xg.out 1
  have kg2 : w10.cell? ⟨w8.heap.size, 2, none⟩ = some (Value.slice a2 n2 c2) := (Lib.cell_of_heap Xg.out 2).trans rfl
  have fg2 : w10.frozen? ⟨w8.heap.size, 2, none⟩ = false := Lib.frozen_of_heap Xg.out 2
  have zg : w8.heap.size < w10.heap.size := hlt Xg.out
  go_wp2_with fail
  have HSEG2 := hide (show BSeg w10 _ _ n n E from (by obtain ⟨u1, u2, u3, u4⟩ := M2.out.seg; cases u3; exact u4))
  have KP : Hid (∀ w', Below w10.heap.size w10 w' → (w'.cell? ⟨w.heap.size, 0, none⟩ = some (Value.int .i64 x) ∧ w'.cell? ⟨w.heap.size, 1, none⟩ = some (Value.int .i64 y) ∧ w'.cell? ⟨w.heap.size, 2, none⟩ = some (Value.slice a n cap) ∧ w'.cell? ⟨w6.heap.size, 0, none⟩ = some (Value.int .i64 x) ∧ w'.cell? ⟨w6.heap.size, 1, none⟩ = some (Value.int .i64 y) ∧ w'.cell? ⟨w6.heap.size, 2, none⟩ = some (Value.slice (some ⟨g2, 0, none⟩) n n))) := hide (fun w' h => ⟨(h.cell (p := ⟨w.heap.size, 0, none⟩) za).trans ka0, (h.cell (p := ⟨w.heap.size, 1, none⟩) za).trans ka1, (h.cell (p := ⟨w.heap.size, 2, none⟩) za).trans ka2, (h.cell (p := ⟨w6.heap.size, 0, none⟩) zx).trans kx0, (h.cell (p := ⟨w6.heap.size, 1, none⟩) zx).trans kx1, (h.cell (p := ⟨w6.heap.size, 2, none⟩) zx).trans kx2⟩)
  go_region_held3 (fun w' => w'.cell? ⟨w.heap.size, 0, none⟩ = some (Value.int .i64 x) ∧ w'.cell? ⟨w.heap.size, 1, none⟩ = some (Value.int .i64 y) ∧ w'.cell? ⟨w.heap.size, 2, none⟩ = some (Value.slice a n cap) ∧ w'.cell? ⟨w6.heap.size, 0, none⟩ = some (Value.int .i64 x) ∧ w'.cell? ⟨w6.heap.size, 1, none⟩ = some (Value.int .i64 y) ∧ w'.cell? ⟨w6.heap.size, 2, none⟩ = some (Value.slice (some ⟨g2, 0, none⟩) n n))
    (first | exact KP.out _ (bl_refl w10).drew | exact KP.out _ hbY | exact KP.out _ hbX)
    (first
      | (go_at_call 12; refine (toM x y a n cap _ E _ ((HS.out.below HB.out).below (bl_refl w10).drew) hn2 HT.out).mono ?_; rintro e wX ⟨g3, A3, rfl, hx3, hbXr⟩; have hbX : Below w10.heap.size w10 wX := (bl_refl w10).drew.trans hbXr)
      | (go_at_call 14; refine (eqM x y _ _ n n n _ _ E _ (HSEG2.out.below hbX) hx3.seg).mono ?_; rintro e wY ⟨rfl, hbYr⟩; have hbY : Below w10.heap.size w10 wY := bl_trans hbX hbYr))
  clear KP
  have ywY := hbY.size
  clear HSEG2
  clear ka0 fa0 ka1 fa1 ka2 fa2 za
  clear ks0 fs0 ks1 fs1 ks2 fs2 zs
  clear kx0 fx0 kx1 fx1 kx2 fx2 zx
  clear kg0 fg0 kg1 fg1 kg2 fg2 zg
  replace Xa := hide (hbel Xa.out hbY (by first | assumption | omega))
  replace Xs := hide (hbel Xs.out hbY (by first | assumption | omega))
  replace Xx := hide (hbel Xx.out hbY (by first | assumption | omega))
  replace Xg := hide (hbel Xg.out hbY (by first | assumption | omega))
  replace SS := hide (SS.out.below hbY)
  replace M2 := hide (M2.out.below hbY)
  replace GG := hide (GG.out.below hbY)
  replace HB := hide (bl_trans HB.out hbY)
  clear hbX hbY
  have ka0 : wY.cell? ⟨w.heap.size, 0, none⟩ = some (Value.int .i64 x) := (Lib.cell_of_heap Xa.out 0).trans rfl
  have fa0 : wY.frozen? ⟨w.heap.size, 0, none⟩ = false := Lib.frozen_of_heap Xa.out 0
  have ka1 : wY.cell? ⟨w.heap.size, 1, none⟩ = some (Value.int .i64 y) := (Lib.cell_of_heap Xa.out 1).trans rfl
  have fa1 : wY.frozen? ⟨w.heap.size, 1, none⟩ = false := Lib.frozen_of_heap Xa.out 1
  have ka2 : wY.cell? ⟨w.heap.size, 2, none⟩ = some (Value.slice a n cap) := (Lib.cell_of_heap Xa.out 2).trans rfl
  have fa2 : wY.frozen? ⟨w.heap.size, 2, none⟩ = false := Lib.frozen_of_heap Xa.out 2
  have za : w.heap.size < wY.heap.size := hlt Xa.out
  have ks0 : wY.cell? ⟨w4.heap.size, 0, none⟩ = some (Value.int .i64 R2) := (Lib.cell_of_heap Xs.out 0).trans rfl
  have fs0 : wY.frozen? ⟨w4.heap.size, 0, none⟩ = false := Lib.frozen_of_heap Xs.out 0
  have ks1 : wY.cell? ⟨w4.heap.size, 1, none⟩ = some (Value.int .i64 C2) := (Lib.cell_of_heap Xs.out 1).trans rfl
  have fs1 : wY.frozen? ⟨w4.heap.size, 1, none⟩ = false := Lib.frozen_of_heap Xs.out 1
  have ks2 : wY.cell? ⟨w4.heap.size, 2, none⟩ = some (Value.slice aS n2 pS) := (Lib.cell_of_heap Xs.out 2).trans rfl
  have fs2 : wY.frozen? ⟨w4.heap.size, 2, none⟩ = false := Lib.frozen_of_heap Xs.out 2
  have zs : w4.heap.size < wY.heap.size := hlt Xs.out
  have kx0 : wY.cell? ⟨w6.heap.size, 0, none⟩ = some (Value.int .i64 x) := (Lib.cell_of_heap Xx.out 0).trans rfl
  have fx0 : wY.frozen? ⟨w6.heap.size, 0, none⟩ = false := Lib.frozen_of_heap Xx.out 0
  have kx1 : wY.cell? ⟨w6.heap.size, 1, none⟩ = some (Value.int .i64 y) := (Lib.cell_of_heap Xx.out 1).trans rfl
  have fx1 : wY.frozen? ⟨w6.heap.size, 1, none⟩ = false := Lib.frozen_of_heap Xx.out 1
  have kx2 : wY.cell? ⟨w6.heap.size, 2, none⟩ = some (Value.slice (some ⟨g2, 0, none⟩) n n) := (Lib.cell_of_heap Xx.out 2).trans rfl
  have fx2 : wY.frozen? ⟨w6.heap.size, 2, none⟩ = false := Lib.frozen_of_heap Xx.out 2
  have zx : w6.heap.size < wY.heap.size := hlt Xx.out
  have kg0 : wY.cell? ⟨w8.heap.size, 0, none⟩ = some (Value.int .i64 R2) := (Lib.cell_of_heap Xg.out 0).trans rfl
  have fg0 : wY.frozen? ⟨w8.heap.size, 0, none⟩ = false := Lib.frozen_of_heap Xg.out 0
  have kg1 : wY.cell? ⟨w8.heap.size, 1, none⟩ = some (Value.int .i64 C2) := (Lib.cell_of_heap Xg.out 1).trans rfl
  have fg1 : wY.frozen? ⟨w8.heap.size, 1, none⟩ = false := Lib.frozen_of_heap Xg.out 1
  have kg2 : wY.cell? ⟨w8.heap.size, 2, none⟩ = some (Value.slice a2 n2 c2) := (Lib.cell_of_heap Xg.out 2).trans rfl
  have fg2 : wY.frozen? ⟨w8.heap.size, 2, none⟩ = false := Lib.frozen_of_heap Xg.out 2
  have zg : w8.heap.size < wY.heap.size := hlt Xg.out
  go_wp2_with fail
  refine (markMe x y _ n E w5.heap.size w6.heap.size 1 1 wY rfl HTA.out M2.out).mono ?_
  rintro e w11 ⟨rfl, hg, hc⟩
  have yw11 := hc.size
  clear ka0 fa0 ka1 fa1 ka2 fa2 za
  clear ks0 fs0 ks1 fs1 ks2 fs2 zs
  clear kx0 fx0 kx1 fx1 kx2 fx2 zx
  clear kg0 fg0 kg1 fg1 kg2 fg2 zg
  clear M2
  replace Xa := hide (hc.heap Xa.out (fun q => by omega))
  replace Xs := hide (hc.heap Xs.out (fun q => by omega))
  replace Xx := hide (hc.heap Xx.out (fun q => by omega))
  replace Xg := hide (hc.heap Xg.out (fun q => by omega))
  replace SS := hide (SS.out.chg hc (fun b q1 q => by omega))
  replace GG := hide (GG.out.chg hc (fun b q1 q2 q => by omega))
  replace HB := hide (Chg.keep HB.out hc (fun k q => by omega) HB.out.size)
  have M2 := hide hg
  clear hg
  clear hc
  have ka0 : w11.cell? ⟨w.heap.size, 0, none⟩ = some (Value.int .i64 x) := (Lib.cell_of_heap Xa.out 0).trans rfl
  have fa0 : w11.frozen? ⟨w.heap.size, 0, none⟩ = false := Lib.frozen_of_heap Xa.out 0
  have ka1 : w11.cell? ⟨w.heap.size, 1, none⟩ = some (Value.int .i64 y) := (Lib.cell_of_heap Xa.out 1).trans rfl
  have fa1 : w11.frozen? ⟨w.heap.size, 1, none⟩ = false := Lib.frozen_of_heap Xa.out 1
  have ka2 : w11.cell? ⟨w.heap.size, 2, none⟩ = some (Value.slice a n cap) := (Lib.cell_of_heap Xa.out 2).trans rfl
  have fa2 : w11.frozen? ⟨w.heap.size, 2, none⟩ = false := Lib.frozen_of_heap Xa.out 2
  have za : w.heap.size < w11.heap.size := hlt Xa.out
  have ks0 : w11.cell? ⟨w4.heap.size, 0, none⟩ = some (Value.int .i64 R2) := (Lib.cell_of_heap Xs.out 0).trans rfl
  have fs0 : w11.frozen? ⟨w4.heap.size, 0, none⟩ = false := Lib.frozen_of_heap Xs.out 0
  have ks1 : w11.cell? ⟨w4.heap.size, 1, none⟩ = some (Value.int .i64 C2) := (Lib.cell_of_heap Xs.out 1).trans rfl
  have fs1 : w11.frozen? ⟨w4.heap.size, 1, none⟩ = false := Lib.frozen_of_heap Xs.out 1
  have ks2 : w11.cell? ⟨w4.heap.size, 2, none⟩ = some (Value.slice aS n2 pS) := (Lib.cell_of_heap Xs.out 2).trans rfl
  have fs2 : w11.frozen? ⟨w4.heap.size, 2, none⟩ = false := Lib.frozen_of_heap Xs.out 2
  have zs : w4.heap.size < w11.heap.size := hlt Xs.out
  have kx0 : w11.cell? ⟨w6.heap.size, 0, none⟩ = some (Value.int .i64 x) := (Lib.cell_of_heap Xx.out 0).trans rfl
  have fx0 : w11.frozen? ⟨w6.heap.size, 0, none⟩ = false := Lib.frozen_of_heap Xx.out 0
  have kx1 : w11.cell? ⟨w6.heap.size, 1, none⟩ = some (Value.int .i64 y) := (Lib.cell_of_heap Xx.out 1).trans rfl
  have fx1 : w11.frozen? ⟨w6.heap.size, 1, none⟩ = false := Lib.frozen_of_heap Xx.out 1
  have kx2 : w11.cell? ⟨w6.heap.size, 2, none⟩ = some (Value.slice (some ⟨g2, 0, none⟩) n n) := (Lib.cell_of_heap Xx.out 2).trans rfl
  have fx2 : w11.frozen? ⟨w6.heap.size, 2, none⟩ = false := Lib.frozen_of_heap Xx.out 2
  have zx : w6.heap.size < w11.heap.size := hlt Xx.out
  have kg0 : w11.cell? ⟨w8.heap.size, 0, none⟩ = some (Value.int .i64 R2) := (Lib.cell_of_heap Xg.out 0).trans rfl
  have fg0 : w11.frozen? ⟨w8.heap.size, 0, none⟩ = false := Lib.frozen_of_heap Xg.out 0
  have kg1 : w11.cell? ⟨w8.heap.size, 1, none⟩ = some (Value.int .i64 C2) := (Lib.cell_of_heap Xg.out 1).trans rfl
  have fg1 : w11.frozen? ⟨w8.heap.size, 1, none⟩ = false := Lib.frozen_of_heap Xg.out 1
  have kg2 : w11.cell? ⟨w8.heap.size, 2, none⟩ = some (Value.slice a2 n2 c2) := (Lib.cell_of_heap Xg.out 2).trans rfl
  have fg2 : w11.frozen? ⟨w8.heap.size, 2, none⟩ = false := Lib.frozen_of_heap Xg.out 2
  have zg : w8.heap.size < w11.heap.size := hlt Xg.out
  rw [HT1.out]
  clear M2
  go_wp2_with fail
  refine (eqM R2 C2 a2 aS n2 c2 pS _ _ E2 w11 (by obtain ⟨u1, u2, u3, u4⟩ := GG.out.seg; cases u3; exact u4) SS.out).mono ?_
  rintro e w12 ⟨rfl, hb⟩
  have yw12 := hb.size
  clear ka0 fa0 ka1 fa1 ka2 fa2 za
  clear ks0 fs0 ks1 fs1 ks2 fs2 zs
  clear kx0 fx0 kx1 fx1 kx2 fx2 zx
  clear kg0 fg0 kg1 fg1 kg2 fg2 zg
  replace Xa := hide (hbel Xa.out hb (by first | assumption | omega))
  replace Xs := hide (hbel Xs.out hb (by first | assumption | omega))
  replace Xx := hide (hbel Xx.out hb (by first | assumption | omega))
  replace Xg := hide (hbel Xg.out hb (by first | assumption | omega))
  replace SS := hide (SS.out.below hb)
  replace GG := hide (GG.out.below hb)
  replace HB := hide (bl_trans HB.out hb)
  clear hb
  have ka0 : w12.cell? ⟨w.heap.size, 0, none⟩ = some (Value.int .i64 x) := (Lib.cell_of_heap Xa.out 0).trans rfl
  have fa0 : w12.frozen? ⟨w.heap.size, 0, none⟩ = false := Lib.frozen_of_heap Xa.out 0
  have ka1 : w12.cell? ⟨w.heap.size, 1, none⟩ = some (Value.int .i64 y) := (Lib.cell_of_heap Xa.out 1).trans rfl
  have fa1 : w12.frozen? ⟨w.heap.size, 1, none⟩ = false := Lib.frozen_of_heap Xa.out 1
  have ka2 : w12.cell? ⟨w.heap.size, 2, none⟩ = some (Value.slice a n cap) := (Lib.cell_of_heap Xa.out 2).trans rfl
  have fa2 : w12.frozen? ⟨w.heap.size, 2, none⟩ = false := Lib.frozen_of_heap Xa.out 2
  have za : w.heap.size < w12.heap.size := hlt Xa.out
  have ks0 : w12.cell? ⟨w4.heap.size, 0, none⟩ = some (Value.int .i64 R2) := (Lib.cell_of_heap Xs.out 0).trans rfl
  have fs0 : w12.frozen? ⟨w4.heap.size, 0, none⟩ = false := Lib.frozen_of_heap Xs.out 0
  have ks1 : w12.cell? ⟨w4.heap.size, 1, none⟩ = some (Value.int .i64 C2) := (Lib.cell_of_heap Xs.out 1).trans rfl
  have fs1 : w12.frozen? ⟨w4.heap.size, 1, none⟩ = false := Lib.frozen_of_heap Xs.out 1
  have ks2 : w12.cell? ⟨w4.heap.size, 2, none⟩ = some (Value.slice aS n2 pS) := (Lib.cell_of_heap Xs.out 2).trans rfl
  have fs2 : w12.frozen? ⟨w4.heap.size, 2, none⟩ = false := Lib.frozen_of_heap Xs.out 2
  have zs : w4.heap.size < w12.heap.size := hlt Xs.out
  have kx0 : w12.cell? ⟨w6.heap.size, 0, none⟩ = some (Value.int .i64 x) := (Lib.cell_of_heap Xx.out 0).trans rfl
  have fx0 : w12.frozen? ⟨w6.heap.size, 0, none⟩ = false := Lib.frozen_of_heap Xx.out 0
  have kx1 : w12.cell? ⟨w6.heap.size, 1, none⟩ = some (Value.int .i64 y) := (Lib.cell_of_heap Xx.out 1).trans rfl
  have fx1 : w12.frozen? ⟨w6.heap.size, 1, none⟩ = false := Lib.frozen_of_heap Xx.out 1
  have kx2 : w12.cell? ⟨w6.heap.size, 2, none⟩ = some (Value.slice (some ⟨g2, 0, none⟩) n n) := (Lib.cell_of_heap Xx.out 2).trans rfl
  have fx2 : w12.frozen? ⟨w6.heap.size, 2, none⟩ = false := Lib.frozen_of_heap Xx.out 2
  have zx : w6.heap.size < w12.heap.size := hlt Xx.out
  have kg0 : w12.cell? ⟨w8.heap.size, 0, none⟩ = some (Value.int .i64 R2) := (Lib.cell_of_heap Xg.out 0).trans rfl
  have fg0 : w12.frozen? ⟨w8.heap.size, 0, none⟩ = false := Lib.frozen_of_heap Xg.out 0
  have kg1 : w12.cell? ⟨w8.heap.size, 1, none⟩ = some (Value.int .i64 C2) := (Lib.cell_of_heap Xg.out 1).trans rfl
  have fg1 : w12.frozen? ⟨w8.heap.size, 1, none⟩ = false := Lib.frozen_of_heap Xg.out 1
  have kg2 : w12.cell? ⟨w8.heap.size, 2, none⟩ = some (Value.slice a2 n2 c2) := (Lib.cell_of_heap Xg.out 2).trans rfl
  have fg2 : w12.frozen? ⟨w8.heap.size, 2, none⟩ = false := Lib.frozen_of_heap Xg.out 2
  have zg : w8.heap.size < w12.heap.size := hlt Xg.out
  go_wp2_with fail
  refine (markMe R2 C2 _ n2 E2 w7.heap.size w8.heap.size 1 1 w12 rfl HTm.out GG.out).mono ?_
  rintro e w13 ⟨rfl, hg, hc⟩
  have yw13 := hc.size
  clear ka0 fa0 ka1 fa1 ka2 fa2 za
  clear ks0 fs0 ks1 fs1 ks2 fs2 zs
  clear kx0 fx0 kx1 fx1 kx2 fx2 zx
  clear kg0 fg0 kg1 fg1 kg2 fg2 zg
  clear GG
  replace Xa := hide (hc.heap Xa.out (fun q => by omega))
  replace Xs := hide (hc.heap Xs.out (fun q => by omega))
  replace Xx := hide (hc.heap Xx.out (fun q => by omega))
  replace Xg := hide (hc.heap Xg.out (fun q => by omega))
  replace SS := hide (SS.out.chg hc (fun b q1 q => by omega))
  replace HB := hide (Chg.keep HB.out hc (fun k q => by omega) HB.out.size)
  have GG := hide hg
  clear hg
  clear hc
  have ka0 : w13.cell? ⟨w.heap.size, 0, none⟩ = some (Value.int .i64 x) := (Lib.cell_of_heap Xa.out 0).trans rfl
  have fa0 : w13.frozen? ⟨w.heap.size, 0, none⟩ = false := Lib.frozen_of_heap Xa.out 0
  have ka1 : w13.cell? ⟨w.heap.size, 1, none⟩ = some (Value.int .i64 y) := (Lib.cell_of_heap Xa.out 1).trans rfl
  have fa1 : w13.frozen? ⟨w.heap.size, 1, none⟩ = false := Lib.frozen_of_heap Xa.out 1
  have ka2 : w13.cell? ⟨w.heap.size, 2, none⟩ = some (Value.slice a n cap) := (Lib.cell_of_heap Xa.out 2).trans rfl
  have fa2 : w13.frozen? ⟨w.heap.size, 2, none⟩ = false := Lib.frozen_of_heap Xa.out 2
  have za : w.heap.size < w13.heap.size := hlt Xa.out
  have ks0 : w13.cell? ⟨w4.heap.size, 0, none⟩ = some (Value.int .i64 R2) := (Lib.cell_of_heap Xs.out 0).trans rfl
  have fs0 : w13.frozen? ⟨w4.heap.size, 0, none⟩ = false := Lib.frozen_of_heap Xs.out 0
  have ks1 : w13.cell? ⟨w4.heap.size, 1, none⟩ = some (Value.int .i64 C2) := (Lib.cell_of_heap Xs.out 1).trans rfl
  have fs1 : w13.frozen? ⟨w4.heap.size, 1, none⟩ = false := Lib.frozen_of_heap Xs.out 1
  have ks2 : w13.cell? ⟨w4.heap.size, 2, none⟩ = some (Value.slice aS n2 pS) := (Lib.cell_of_heap Xs.out 2).trans rfl
  have fs2 : w13.frozen? ⟨w4.heap.size, 2, none⟩ = false := Lib.frozen_of_heap Xs.out 2
  have zs : w4.heap.size < w13.heap.size := hlt Xs.out
  have kx0 : w13.cell? ⟨w6.heap.size, 0, none⟩ = some (Value.int .i64 x) := (Lib.cell_of_heap Xx.out 0).trans rfl
  have fx0 : w13.frozen? ⟨w6.heap.size, 0, none⟩ = false := Lib.frozen_of_heap Xx.out 0
  have kx1 : w13.cell? ⟨w6.heap.size, 1, none⟩ = some (Value.int .i64 y) := (Lib.cell_of_heap Xx.out 1).trans rfl
  have fx1 : w13.frozen? ⟨w6.heap.size, 1, none⟩ = false := Lib.frozen_of_heap Xx.out 1
  have kx2 : w13.cell? ⟨w6.heap.size, 2, none⟩ = some (Value.slice (some ⟨g2, 0, none⟩) n n) := (Lib.cell_of_heap Xx.out 2).trans rfl
  have fx2 : w13.frozen? ⟨w6.heap.size, 2, none⟩ = false := Lib.frozen_of_heap Xx.out 2
  have zx : w6.heap.size < w13.heap.size := hlt Xx.out
  have kg0 : w13.cell? ⟨w8.heap.size, 0, none⟩ = some (Value.int .i64 R2) := (Lib.cell_of_heap Xg.out 0).trans rfl
  have fg0 : w13.frozen? ⟨w8.heap.size, 0, none⟩ = false := Lib.frozen_of_heap Xg.out 0
  have kg1 : w13.cell? ⟨w8.heap.size, 1, none⟩ = some (Value.int .i64 C2) := (Lib.cell_of_heap Xg.out 1).trans rfl
  have fg1 : w13.frozen? ⟨w8.heap.size, 1, none⟩ = false := Lib.frozen_of_heap Xg.out 1
  have kg2 : w13.cell? ⟨w8.heap.size, 2, none⟩ = some (Value.slice a2 n2 c2) := (Lib.cell_of_heap Xg.out 2).trans rfl
  have fg2 : w13.frozen? ⟨w8.heap.size, 2, none⟩ = false := Lib.frozen_of_heap Xg.out 2
  have zg : w8.heap.size < w13.heap.size := hlt Xg.out
  rw [HTT.out]
  go_wp2_with fail
  refine (heldMe R2 C2 a2 n2 c2 _ E2 1 1 w13 rfl HTm.out (by obtain ⟨u1, u2, u3, u4⟩ := GG.out.seg; cases u3; exact u4)).mono ?_
  rintro e w14 ⟨rfl, hb⟩
  have yw14 := hb.size
  clear ka0 fa0 ka1 fa1 ka2 fa2 za
  clear ks0 fs0 ks1 fs1 ks2 fs2 zs
  clear kx0 fx0 kx1 fx1 kx2 fx2 zx
  clear kg0 fg0 kg1 fg1 kg2 fg2 zg
  replace Xa := hide (hbel Xa.out hb (by first | assumption | omega))
  replace Xs := hide (hbel Xs.out hb (by first | assumption | omega))
  replace Xx := hide (hbel Xx.out hb (by first | assumption | omega))
  replace Xg := hide (hbel Xg.out hb (by first | assumption | omega))
  replace SS := hide (SS.out.below hb)
  replace GG := hide (GG.out.below hb)
  replace HB := hide (bl_trans HB.out hb)
  clear hb
  have ka0 : w14.cell? ⟨w.heap.size, 0, none⟩ = some (Value.int .i64 x) := (Lib.cell_of_heap Xa.out 0).trans rfl
  have fa0 : w14.frozen? ⟨w.heap.size, 0, none⟩ = false := Lib.frozen_of_heap Xa.out 0
  have ka1 : w14.cell? ⟨w.heap.size, 1, none⟩ = some (Value.int .i64 y) := (Lib.cell_of_heap Xa.out 1).trans rfl
  have fa1 : w14.frozen? ⟨w.heap.size, 1, none⟩ = false := Lib.frozen_of_heap Xa.out 1
  have ka2 : w14.cell? ⟨w.heap.size, 2, none⟩ = some (Value.slice a n cap) := (Lib.cell_of_heap Xa.out 2).trans rfl
  have fa2 : w14.frozen? ⟨w.heap.size, 2, none⟩ = false := Lib.frozen_of_heap Xa.out 2
  have za : w.heap.size < w14.heap.size := hlt Xa.out
  have ks0 : w14.cell? ⟨w4.heap.size, 0, none⟩ = some (Value.int .i64 R2) := (Lib.cell_of_heap Xs.out 0).trans rfl
  have fs0 : w14.frozen? ⟨w4.heap.size, 0, none⟩ = false := Lib.frozen_of_heap Xs.out 0
  have ks1 : w14.cell? ⟨w4.heap.size, 1, none⟩ = some (Value.int .i64 C2) := (Lib.cell_of_heap Xs.out 1).trans rfl
  have fs1 : w14.frozen? ⟨w4.heap.size, 1, none⟩ = false := Lib.frozen_of_heap Xs.out 1
  have ks2 : w14.cell? ⟨w4.heap.size, 2, none⟩ = some (Value.slice aS n2 pS) := (Lib.cell_of_heap Xs.out 2).trans rfl
  have fs2 : w14.frozen? ⟨w4.heap.size, 2, none⟩ = false := Lib.frozen_of_heap Xs.out 2
  have zs : w4.heap.size < w14.heap.size := hlt Xs.out
  have kx0 : w14.cell? ⟨w6.heap.size, 0, none⟩ = some (Value.int .i64 x) := (Lib.cell_of_heap Xx.out 0).trans rfl
  have fx0 : w14.frozen? ⟨w6.heap.size, 0, none⟩ = false := Lib.frozen_of_heap Xx.out 0
  have kx1 : w14.cell? ⟨w6.heap.size, 1, none⟩ = some (Value.int .i64 y) := (Lib.cell_of_heap Xx.out 1).trans rfl
  have fx1 : w14.frozen? ⟨w6.heap.size, 1, none⟩ = false := Lib.frozen_of_heap Xx.out 1
  have kx2 : w14.cell? ⟨w6.heap.size, 2, none⟩ = some (Value.slice (some ⟨g2, 0, none⟩) n n) := (Lib.cell_of_heap Xx.out 2).trans rfl
  have fx2 : w14.frozen? ⟨w6.heap.size, 2, none⟩ = false := Lib.frozen_of_heap Xx.out 2
  have zx : w6.heap.size < w14.heap.size := hlt Xx.out
  have kg0 : w14.cell? ⟨w8.heap.size, 0, none⟩ = some (Value.int .i64 R2) := (Lib.cell_of_heap Xg.out 0).trans rfl
  have fg0 : w14.frozen? ⟨w8.heap.size, 0, none⟩ = false := Lib.frozen_of_heap Xg.out 0
  have kg1 : w14.cell? ⟨w8.heap.size, 1, none⟩ = some (Value.int .i64 C2) := (Lib.cell_of_heap Xg.out 1).trans rfl
  have fg1 : w14.frozen? ⟨w8.heap.size, 1, none⟩ = false := Lib.frozen_of_heap Xg.out 1
  have kg2 : w14.cell? ⟨w8.heap.size, 2, none⟩ = some (Value.slice a2 n2 c2) := (Lib.cell_of_heap Xg.out 2).trans rfl
  have fg2 : w14.frozen? ⟨w8.heap.size, 2, none⟩ = false := Lib.frozen_of_heap Xg.out 2
  have zg : w8.heap.size < w14.heap.size := hlt Xg.out
  rw [HTT.out]
  go_wp2_with fail
  refine (toM x y a n cap _ E w14 (HS.out.below HB.out) hn2 HT.out).mono ?_
  rintro e w15 ⟨g5, A5, rfl, hx5, hb⟩
  have yw15 := hb.size
  clear ka0 fa0 ka1 fa1 ka2 fa2 za
  clear ks0 fs0 ks1 fs1 ks2 fs2 zs
  clear kx0 fx0 kx1 fx1 kx2 fx2 zx
  clear kg0 fg0 kg1 fg1 kg2 fg2 zg
  replace Xa := hide (hbel Xa.out hb (by first | assumption | omega))
  replace Xs := hide (hbel Xs.out hb (by first | assumption | omega))
  replace Xx := hide (hbel Xx.out hb (by first | assumption | omega))
  replace Xg := hide (hbel Xg.out hb (by first | assumption | omega))
  replace SS := hide (SS.out.below hb)
  replace GG := hide (GG.out.below hb)
  replace HB := hide (bl_trans HB.out hb)
  clear hb
  have M5 := hide hx5.g
  clear hx5
  have ka0 : w15.cell? ⟨w.heap.size, 0, none⟩ = some (Value.int .i64 x) := (Lib.cell_of_heap Xa.out 0).trans rfl
  have fa0 : w15.frozen? ⟨w.heap.size, 0, none⟩ = false := Lib.frozen_of_heap Xa.out 0
  have ka1 : w15.cell? ⟨w.heap.size, 1, none⟩ = some (Value.int .i64 y) := (Lib.cell_of_heap Xa.out 1).trans rfl
  have fa1 : w15.frozen? ⟨w.heap.size, 1, none⟩ = false := Lib.frozen_of_heap Xa.out 1
  have ka2 : w15.cell? ⟨w.heap.size, 2, none⟩ = some (Value.slice a n cap) := (Lib.cell_of_heap Xa.out 2).trans rfl
  have fa2 : w15.frozen? ⟨w.heap.size, 2, none⟩ = false := Lib.frozen_of_heap Xa.out 2
  have za : w.heap.size < w15.heap.size := hlt Xa.out
  have ks0 : w15.cell? ⟨w4.heap.size, 0, none⟩ = some (Value.int .i64 R2) := (Lib.cell_of_heap Xs.out 0).trans rfl
  have fs0 : w15.frozen? ⟨w4.heap.size, 0, none⟩ = false := Lib.frozen_of_heap Xs.out 0
  have ks1 : w15.cell? ⟨w4.heap.size, 1, none⟩ = some (Value.int .i64 C2) := (Lib.cell_of_heap Xs.out 1).trans rfl
  have fs1 : w15.frozen? ⟨w4.heap.size, 1, none⟩ = false := Lib.frozen_of_heap Xs.out 1
  have ks2 : w15.cell? ⟨w4.heap.size, 2, none⟩ = some (Value.slice aS n2 pS) := (Lib.cell_of_heap Xs.out 2).trans rfl
  have fs2 : w15.frozen? ⟨w4.heap.size, 2, none⟩ = false := Lib.frozen_of_heap Xs.out 2
  have zs : w4.heap.size < w15.heap.size := hlt Xs.out
  have kx0 : w15.cell? ⟨w6.heap.size, 0, none⟩ = some (Value.int .i64 x) := (Lib.cell_of_heap Xx.out 0).trans rfl
  have fx0 : w15.frozen? ⟨w6.heap.size, 0, none⟩ = false := Lib.frozen_of_heap Xx.out 0
  have kx1 : w15.cell? ⟨w6.heap.size, 1, none⟩ = some (Value.int .i64 y) := (Lib.cell_of_heap Xx.out 1).trans rfl
  have fx1 : w15.frozen? ⟨w6.heap.size, 1, none⟩ = false := Lib.frozen_of_heap Xx.out 1
  have kx2 : w15.cell? ⟨w6.heap.size, 2, none⟩ = some (Value.slice (some ⟨g2, 0, none⟩) n n) := (Lib.cell_of_heap Xx.out 2).trans rfl
  have fx2 : w15.frozen? ⟨w6.heap.size, 2, none⟩ = false := Lib.frozen_of_heap Xx.out 2
  have zx : w6.heap.size < w15.heap.size := hlt Xx.out
  have kg0 : w15.cell? ⟨w8.heap.size, 0, none⟩ = some (Value.int .i64 R2) := (Lib.cell_of_heap Xg.out 0).trans rfl
  have fg0 : w15.frozen? ⟨w8.heap.size, 0, none⟩ = false := Lib.frozen_of_heap Xg.out 0
  have kg1 : w15.cell? ⟨w8.heap.size, 1, none⟩ = some (Value.int .i64 C2) := (Lib.cell_of_heap Xg.out 1).trans rfl
  have fg1 : w15.frozen? ⟨w8.heap.size, 1, none⟩ = false := Lib.frozen_of_heap Xg.out 1
  have kg2 : w15.cell? ⟨w8.heap.size, 2, none⟩ = some (Value.slice a2 n2 c2) := (Lib.cell_of_heap Xg.out 2).trans rfl
  have fg2 : w15.frozen? ⟨w8.heap.size, 2, none⟩ = false := Lib.frozen_of_heap Xg.out 2
  have zg : w8.heap.size < w15.heap.size := hlt Xg.out
  go_wp2_with fail
  refine (HII.out _ _ _ w15 (by obtain ⟨u1, u2, u3, u4⟩ := M5.out.seg; cases u3; exact u4)).mono ?_
  rintro e w16 ⟨v4, rfl, hg4, hb⟩
  have yw16 := hb.size
  clear ka0 fa0 ka1 fa1 ka2 fa2 za
  clear ks0 fs0 ks1 fs1 ks2 fs2 zs
  clear kx0 fx0 kx1 fx1 kx2 fx2 zx
  clear kg0 fg0 kg1 fg1 kg2 fg2 zg
  replace Xa := hide (hbel Xa.out hb (by first | assumption | omega))
  replace Xs := hide (hbel Xs.out hb (by first | assumption | omega))
  replace Xx := hide (hbel Xx.out hb (by first | assumption | omega))
  replace Xg := hide (hbel Xg.out hb (by first | assumption | omega))
  replace SS := hide (SS.out.below hb)
  replace GG := hide (GG.out.below hb)
  replace M5 := hide (M5.out.below hb)
  replace HB := hide (bl_trans HB.out hb)
  clear hb
  have G4 := hide hg4
  clear hg4
  have ka0 : w16.cell? ⟨w.heap.size, 0, none⟩ = some (Value.int .i64 x) := (Lib.cell_of_heap Xa.out 0).trans rfl
  have fa0 : w16.frozen? ⟨w.heap.size, 0, none⟩ = false := Lib.frozen_of_heap Xa.out 0
  have ka1 : w16.cell? ⟨w.heap.size, 1, none⟩ = some (Value.int .i64 y) := (Lib.cell_of_heap Xa.out 1).trans rfl
  have fa1 : w16.frozen? ⟨w.heap.size, 1, none⟩ = false := Lib.frozen_of_heap Xa.out 1
  have ka2 : w16.cell? ⟨w.heap.size, 2, none⟩ = some (Value.slice a n cap) := (Lib.cell_of_heap Xa.out 2).trans rfl
  have fa2 : w16.frozen? ⟨w.heap.size, 2, none⟩ = false := Lib.frozen_of_heap Xa.out 2
  have za : w.heap.size < w16.heap.size := hlt Xa.out
  have ks0 : w16.cell? ⟨w4.heap.size, 0, none⟩ = some (Value.int .i64 R2) := (Lib.cell_of_heap Xs.out 0).trans rfl
  have fs0 : w16.frozen? ⟨w4.heap.size, 0, none⟩ = false := Lib.frozen_of_heap Xs.out 0
  have ks1 : w16.cell? ⟨w4.heap.size, 1, none⟩ = some (Value.int .i64 C2) := (Lib.cell_of_heap Xs.out 1).trans rfl
  have fs1 : w16.frozen? ⟨w4.heap.size, 1, none⟩ = false := Lib.frozen_of_heap Xs.out 1
  have ks2 : w16.cell? ⟨w4.heap.size, 2, none⟩ = some (Value.slice aS n2 pS) := (Lib.cell_of_heap Xs.out 2).trans rfl
  have fs2 : w16.frozen? ⟨w4.heap.size, 2, none⟩ = false := Lib.frozen_of_heap Xs.out 2
  have zs : w4.heap.size < w16.heap.size := hlt Xs.out
  have kx0 : w16.cell? ⟨w6.heap.size, 0, none⟩ = some (Value.int .i64 x) := (Lib.cell_of_heap Xx.out 0).trans rfl
  have fx0 : w16.frozen? ⟨w6.heap.size, 0, none⟩ = false := Lib.frozen_of_heap Xx.out 0
  have kx1 : w16.cell? ⟨w6.heap.size, 1, none⟩ = some (Value.int .i64 y) := (Lib.cell_of_heap Xx.out 1).trans rfl
  have fx1 : w16.frozen? ⟨w6.heap.size, 1, none⟩ = false := Lib.frozen_of_heap Xx.out 1
  have kx2 : w16.cell? ⟨w6.heap.size, 2, none⟩ = some (Value.slice (some ⟨g2, 0, none⟩) n n) := (Lib.cell_of_heap Xx.out 2).trans rfl
  have fx2 : w16.frozen? ⟨w6.heap.size, 2, none⟩ = false := Lib.frozen_of_heap Xx.out 2
  have zx : w6.heap.size < w16.heap.size := hlt Xx.out
  have kg0 : w16.cell? ⟨w8.heap.size, 0, none⟩ = some (Value.int .i64 R2) := (Lib.cell_of_heap Xg.out 0).trans rfl
  have fg0 : w16.frozen? ⟨w8.heap.size, 0, none⟩ = false := Lib.frozen_of_heap Xg.out 0
  have kg1 : w16.cell? ⟨w8.heap.size, 1, none⟩ = some (Value.int .i64 C2) := (Lib.cell_of_heap Xg.out 1).trans rfl
  have fg1 : w16.frozen? ⟨w8.heap.size, 1, none⟩ = false := Lib.frozen_of_heap Xg.out 1
  have kg2 : w16.cell? ⟨w8.heap.size, 2, none⟩ = some (Value.slice a2 n2 c2) := (Lib.cell_of_heap Xg.out 2).trans rfl
  have fg2 : w16.frozen? ⟨w8.heap.size, 2, none⟩ = false := Lib.frozen_of_heap Xg.out 2
  have zg : w8.heap.size < w16.heap.size := hlt Xg.out
  clear M5
  obtain ⟨a4, c4, ev, hs4⟩ := G4.out.seg
  subst ev
  clear hs4
  go_wp2_with fail
  have Xh : Hid ((w16.alloc (Obj.cells #[Value.int .i64 R2, Value.int .i64 C2, Value.slice a4 n2 c4] 29)).heap[w16.heap.size]? = some (.cells #[Value.int .i64 R2, Value.int .i64 C2, Value.slice a4 n2 c4] 29 (0, 0))) := hide (hnew _ _)
  have hbn := (bl_alloc (bl_refl w16) (Obj.cells #[Value.int .i64 R2, Value.int .i64 C2, Value.slice a4 n2 c4] 29))
  have yw17 : w16.heap.size + 1 ≤ (w16.alloc (Obj.cells #[Value.int .i64 R2, Value.int .i64 C2, Value.slice a4 n2 c4] 29)).heap.size := by simp only [World.size_alloc]; omega
  generalize w16.alloc (Obj.cells #[Value.int .i64 R2, Value.int .i64 C2, Value.slice a4 n2 c4] 29) = w17 at *
  clear ka0 fa0 ka1 fa1 ka2 fa2 za
  clear ks0 fs0 ks1 fs1 ks2 fs2 zs
  clear kx0 fx0 kx1 fx1 kx2 fx2 zx
  clear kg0 fg0 kg1 fg1 kg2 fg2 zg
  replace Xa := hide (hbel Xa.out hbn (by first | assumption | omega))
  replace Xs := hide (hbel Xs.out hbn (by first | assumption | omega))
  replace Xx := hide (hbel Xx.out hbn (by first | assumption | omega))
  replace Xg := hide (hbel Xg.out hbn (by first | assumption | omega))
  replace SS := hide (SS.out.below hbn)
  replace GG := hide (GG.out.below hbn)
  replace G4 := hide (G4.out.below hbn)
  replace HB := hide (bl_trans HB.out hbn)
  clear hbn
  have ka0 : w17.cell? ⟨w.heap.size, 0, none⟩ = some (Value.int .i64 x) := (Lib.cell_of_heap Xa.out 0).trans rfl
  have fa0 : w17.frozen? ⟨w.heap.size, 0, none⟩ = false := Lib.frozen_of_heap Xa.out 0
  have ka1 : w17.cell? ⟨w.heap.size, 1, none⟩ = some (Value.int .i64 y) := (Lib.cell_of_heap Xa.out 1).trans rfl
  have fa1 : w17.frozen? ⟨w.heap.size, 1, none⟩ = false := Lib.frozen_of_heap Xa.out 1
  have ka2 : w17.cell? ⟨w.heap.size, 2, none⟩ = some (Value.slice a n cap) := (Lib.cell_of_heap Xa.out 2).trans rfl
  have fa2 : w17.frozen? ⟨w.heap.size, 2, none⟩ = false := Lib.frozen_of_heap Xa.out 2
  have za : w.heap.size < w17.heap.size := hlt Xa.out
  have ks0 : w17.cell? ⟨w4.heap.size, 0, none⟩ = some (Value.int .i64 R2) := (Lib.cell_of_heap Xs.out 0).trans rfl
  have fs0 : w17.frozen? ⟨w4.heap.size, 0, none⟩ = false := Lib.frozen_of_heap Xs.out 0
  have ks1 : w17.cell? ⟨w4.heap.size, 1, none⟩ = some (Value.int .i64 C2) := (Lib.cell_of_heap Xs.out 1).trans rfl
  have fs1 : w17.frozen? ⟨w4.heap.size, 1, none⟩ = false := Lib.frozen_of_heap Xs.out 1
  have ks2 : w17.cell? ⟨w4.heap.size, 2, none⟩ = some (Value.slice aS n2 pS) := (Lib.cell_of_heap Xs.out 2).trans rfl
  have fs2 : w17.frozen? ⟨w4.heap.size, 2, none⟩ = false := Lib.frozen_of_heap Xs.out 2
  have zs : w4.heap.size < w17.heap.size := hlt Xs.out
  have kx0 : w17.cell? ⟨w6.heap.size, 0, none⟩ = some (Value.int .i64 x) := (Lib.cell_of_heap Xx.out 0).trans rfl
  have fx0 : w17.frozen? ⟨w6.heap.size, 0, none⟩ = false := Lib.frozen_of_heap Xx.out 0
  have kx1 : w17.cell? ⟨w6.heap.size, 1, none⟩ = some (Value.int .i64 y) := (Lib.cell_of_heap Xx.out 1).trans rfl
  have fx1 : w17.frozen? ⟨w6.heap.size, 1, none⟩ = false := Lib.frozen_of_heap Xx.out 1
  have kx2 : w17.cell? ⟨w6.heap.size, 2, none⟩ = some (Value.slice (some ⟨g2, 0, none⟩) n n) := (Lib.cell_of_heap Xx.out 2).trans rfl
  have fx2 : w17.frozen? ⟨w6.heap.size, 2, none⟩ = false := Lib.frozen_of_heap Xx.out 2
  have zx : w6.heap.size < w17.heap.size := hlt Xx.out
  have kg0 : w17.cell? ⟨w8.heap.size, 0, none⟩ = some (Value.int .i64 R2) := (Lib.cell_of_heap Xg.out 0).trans rfl
  have fg0 : w17.frozen? ⟨w8.heap.size, 0, none⟩ = false := Lib.frozen_of_heap Xg.out 0
  have kg1 : w17.cell? ⟨w8.heap.size, 1, none⟩ = some (Value.int .i64 C2) := (Lib.cell_of_heap Xg.out 1).trans rfl
  have fg1 : w17.frozen? ⟨w8.heap.size, 1, none⟩ = false := Lib.frozen_of_heap Xg.out 1
  have kg2 : w17.cell? ⟨w8.heap.size, 2, none⟩ = some (Value.slice a2 n2 c2) := (Lib.cell_of_heap Xg.out 2).trans rfl
  have fg2 : w17.frozen? ⟨w8.heap.size, 2, none⟩ = false := Lib.frozen_of_heap Xg.out 2
  have zg : w8.heap.size < w17.heap.size := hlt Xg.out
  have kh0 : w17.cell? ⟨w16.heap.size, 0, none⟩ = some (Value.int .i64 R2) := (Lib.cell_of_heap Xh.out 0).trans rfl
  have fh0 : w17.frozen? ⟨w16.heap.size, 0, none⟩ = false := Lib.frozen_of_heap Xh.out 0
  have kh1 : w17.cell? ⟨w16.heap.size, 1, none⟩ = some (Value.int .i64 C2) := (Lib.cell_of_heap Xh.out 1).trans rfl
  have fh1 : w17.frozen? ⟨w16.heap.size, 1, none⟩ = false := Lib.frozen_of_heap Xh.out 1
  have kh2 : w17.cell? ⟨w16.heap.size, 2, none⟩ = some (Value.slice a4 n2 c4) := (Lib.cell_of_heap Xh.out 2).trans rfl
  have fh2 : w17.frozen? ⟨w16.heap.size, 2, none⟩ = false := Lib.frozen_of_heap Xh.out 2
  have zh : w16.heap.size < w17.heap.size := hlt Xh.out
  refine (eqM R2 C2 a4 aS n2 c4 pS _ _ E2 w17 (by obtain ⟨u1, u2, u3, u4⟩ := G4.out.seg; cases u3; exact u4) SS.out).mono ?_
  rintro e w18 ⟨rfl, hb⟩
  have yw18 := hb.size
  clear ka0 fa0 ka1 fa1 ka2 fa2 za
  clear ks0 fs0 ks1 fs1 ks2 fs2 zs
  clear kx0 fx0 kx1 fx1 kx2 fx2 zx
  clear kg0 fg0 kg1 fg1 kg2 fg2 zg
  clear kh0 fh0 kh1 fh1 kh2 fh2 zh
  replace Xa := hide (hbel Xa.out hb (by first | assumption | omega))
  replace Xs := hide (hbel Xs.out hb (by first | assumption | omega))
  replace Xx := hide (hbel Xx.out hb (by first | assumption | omega))
  replace Xg := hide (hbel Xg.out hb (by first | assumption | omega))
  replace Xh := hide (hbel Xh.out hb (by first | assumption | omega))
  replace SS := hide (SS.out.below hb)
  replace GG := hide (GG.out.below hb)
  replace G4 := hide (G4.out.below hb)
  replace HB := hide (bl_trans HB.out hb)
  clear hb
  have ka0 : w18.cell? ⟨w.heap.size, 0, none⟩ = some (Value.int .i64 x) := (Lib.cell_of_heap Xa.out 0).trans rfl
  have fa0 : w18.frozen? ⟨w.heap.size, 0, none⟩ = false := Lib.frozen_of_heap Xa.out 0
  have ka1 : w18.cell? ⟨w.heap.size, 1, none⟩ = some (Value.int .i64 y) := (Lib.cell_of_heap Xa.out 1).trans rfl
  have fa1 : w18.frozen? ⟨w.heap.size, 1, none⟩ = false := Lib.frozen_of_heap Xa.out 1
  have ka2 : w18.cell? ⟨w.heap.size, 2, none⟩ = some (Value.slice a n cap) := (Lib.cell_of_heap Xa.out 2).trans rfl
  have fa2 : w18.frozen? ⟨w.heap.size, 2, none⟩ = false := Lib.frozen_of_heap Xa.out 2
  have za : w.heap.size < w18.heap.size := hlt Xa.out
  have ks0 : w18.cell? ⟨w4.heap.size, 0, none⟩ = some (Value.int .i64 R2) := (Lib.cell_of_heap Xs.out 0).trans rfl
  have fs0 : w18.frozen? ⟨w4.heap.size, 0, none⟩ = false := Lib.frozen_of_heap Xs.out 0
  have ks1 : w18.cell? ⟨w4.heap.size, 1, none⟩ = some (Value.int .i64 C2) := (Lib.cell_of_heap Xs.out 1).trans rfl
  have fs1 : w18.frozen? ⟨w4.heap.size, 1, none⟩ = false := Lib.frozen_of_heap Xs.out 1
  have ks2 : w18.cell? ⟨w4.heap.size, 2, none⟩ = some (Value.slice aS n2 pS) := (Lib.cell_of_heap Xs.out 2).trans rfl
  have fs2 : w18.frozen? ⟨w4.heap.size, 2, none⟩ = false := Lib.frozen_of_heap Xs.out 2
  have zs : w4.heap.size < w18.heap.size := hlt Xs.out
  have kx0 : w18.cell? ⟨w6.heap.size, 0, none⟩ = some (Value.int .i64 x) := (Lib.cell_of_heap Xx.out 0).trans rfl
  have fx0 : w18.frozen? ⟨w6.heap.size, 0, none⟩ = false := Lib.frozen_of_heap Xx.out 0
  have kx1 : w18.cell? ⟨w6.heap.size, 1, none⟩ = some (Value.int .i64 y) := (Lib.cell_of_heap Xx.out 1).trans rfl
  have fx1 : w18.frozen? ⟨w6.heap.size, 1, none⟩ = false := Lib.frozen_of_heap Xx.out 1
  have kx2 : w18.cell? ⟨w6.heap.size, 2, none⟩ = some (Value.slice (some ⟨g2, 0, none⟩) n n) := (Lib.cell_of_heap Xx.out 2).trans rfl
  have fx2 : w18.frozen? ⟨w6.heap.size, 2, none⟩ = false := Lib.frozen_of_heap Xx.out 2
  have zx : w6.heap.size < w18.heap.size := hlt Xx.out
  have kg0 : w18.cell? ⟨w8.heap.size, 0, none⟩ = some (Value.int .i64 R2) := (Lib.cell_of_heap Xg.out 0).trans rfl
  have fg0 : w18.frozen? ⟨w8.heap.size, 0, none⟩ = false := Lib.frozen_of_heap Xg.out 0
  have kg1 : w18.cell? ⟨w8.heap.size, 1, none⟩ = some (Value.int .i64 C2) := (Lib.cell_of_heap Xg.out 1).trans rfl
  have fg1 : w18.frozen? ⟨w8.heap.size, 1, none⟩ = false := Lib.frozen_of_heap Xg.out 1
  have kg2 : w18.cell? ⟨w8.heap.size, 2, none⟩ = some (Value.slice a2 n2 c2) := (Lib.cell_of_heap Xg.out 2).trans rfl
  have fg2 : w18.frozen? ⟨w8.heap.size, 2, none⟩ = false := Lib.frozen_of_heap Xg.out 2
  have zg : w8.heap.size < w18.heap.size := hlt Xg.out
  have kh0 : w18.cell? ⟨w16.heap.size, 0, none⟩ = some (Value.int .i64 R2) := (Lib.cell_of_heap Xh.out 0).trans rfl
  have fh0 : w18.frozen? ⟨w16.heap.size, 0, none⟩ = false := Lib.frozen_of_heap Xh.out 0
  have kh1 : w18.cell? ⟨w16.heap.size, 1, none⟩ = some (Value.int .i64 C2) := (Lib.cell_of_heap Xh.out 1).trans rfl
  have fh1 : w18.frozen? ⟨w16.heap.size, 1, none⟩ = false := Lib.frozen_of_heap Xh.out 1
  have kh2 : w18.cell? ⟨w16.heap.size, 2, none⟩ = some (Value.slice a4 n2 c4) := (Lib.cell_of_heap Xh.out 2).trans rfl
  have fh2 : w18.frozen? ⟨w16.heap.size, 2, none⟩ = false := Lib.frozen_of_heap Xh.out 2
  have zh : w16.heap.size < w18.heap.size := hlt Xh.out
  go_wp2_with fail
  refine (heldMe R2 C2 a2 n2 c2 _ E2 1 1 w18 rfl HTm.out (by obtain ⟨u1, u2, u3, u4⟩ := GG.out.seg; cases u3; exact u4)).mono ?_
  rintro e w19 ⟨rfl, hb⟩
  have yw19 := hb.size
  clear ka0 fa0 ka1 fa1 ka2 fa2 za
  clear ks0 fs0 ks1 fs1 ks2 fs2 zs
  clear kx0 fx0 kx1 fx1 kx2 fx2 zx
  clear kg0 fg0 kg1 fg1 kg2 fg2 zg
  clear kh0 fh0 kh1 fh1 kh2 fh2 zh
  replace Xa := hide (hbel Xa.out hb (by first | assumption | omega))
  replace Xs := hide (hbel Xs.out hb (by first | assumption | omega))
  replace Xx := hide (hbel Xx.out hb (by first | assumption | omega))
  replace Xg := hide (hbel Xg.out hb (by first | assumption | omega))
  replace Xh := hide (hbel Xh.out hb (by first | assumption | omega))
  replace SS := hide (SS.out.below hb)
  replace GG := hide (GG.out.below hb)
  replace G4 := hide (G4.out.below hb)
  replace HB := hide (bl_trans HB.out hb)
  clear hb
  have ka0 : w19.cell? ⟨w.heap.size, 0, none⟩ = some (Value.int .i64 x) := (Lib.cell_of_heap Xa.out 0).trans rfl
  have fa0 : w19.frozen? ⟨w.heap.size, 0, none⟩ = false := Lib.frozen_of_heap Xa.out 0
  have ka1 : w19.cell? ⟨w.heap.size, 1, none⟩ = some (Value.int .i64 y) := (Lib.cell_of_heap Xa.out 1).trans rfl
  have fa1 : w19.frozen? ⟨w.heap.size, 1, none⟩ = false := Lib.frozen_of_heap Xa.out 1
  have ka2 : w19.cell? ⟨w.heap.size, 2, none⟩ = some (Value.slice a n cap) := (Lib.cell_of_heap Xa.out 2).trans rfl
  have fa2 : w19.frozen? ⟨w.heap.size, 2, none⟩ = false := Lib.frozen_of_heap Xa.out 2
  have za : w.heap.size < w19.heap.size := hlt Xa.out
  have ks0 : w19.cell? ⟨w4.heap.size, 0, none⟩ = some (Value.int .i64 R2) := (Lib.cell_of_heap Xs.out 0).trans rfl
  have fs0 : w19.frozen? ⟨w4.heap.size, 0, none⟩ = false := Lib.frozen_of_heap Xs.out 0
  have ks1 : w19.cell? ⟨w4.heap.size, 1, none⟩ = some (Value.int .i64 C2) := (Lib.cell_of_heap Xs.out 1).trans rfl
  have fs1 : w19.frozen? ⟨w4.heap.size, 1, none⟩ = false := Lib.frozen_of_heap Xs.out 1
  have ks2 : w19.cell? ⟨w4.heap.size, 2, none⟩ = some (Value.slice aS n2 pS) := (Lib.cell_of_heap Xs.out 2).trans rfl
  have fs2 : w19.frozen? ⟨w4.heap.size, 2, none⟩ = false := Lib.frozen_of_heap Xs.out 2
  have zs : w4.heap.size < w19.heap.size := hlt Xs.out
  have kx0 : w19.cell? ⟨w6.heap.size, 0, none⟩ = some (Value.int .i64 x) := (Lib.cell_of_heap Xx.out 0).trans rfl
  have fx0 : w19.frozen? ⟨w6.heap.size, 0, none⟩ = false := Lib.frozen_of_heap Xx.out 0
  have kx1 : w19.cell? ⟨w6.heap.size, 1, none⟩ = some (Value.int .i64 y) := (Lib.cell_of_heap Xx.out 1).trans rfl
  have fx1 : w19.frozen? ⟨w6.heap.size, 1, none⟩ = false := Lib.frozen_of_heap Xx.out 1
  have kx2 : w19.cell? ⟨w6.heap.size, 2, none⟩ = some (Value.slice (some ⟨g2, 0, none⟩) n n) := (Lib.cell_of_heap Xx.out 2).trans rfl
  have fx2 : w19.frozen? ⟨w6.heap.size, 2, none⟩ = false := Lib.frozen_of_heap Xx.out 2
  have zx : w6.heap.size < w19.heap.size := hlt Xx.out
  have kg0 : w19.cell? ⟨w8.heap.size, 0, none⟩ = some (Value.int .i64 R2) := (Lib.cell_of_heap Xg.out 0).trans rfl
  have fg0 : w19.frozen? ⟨w8.heap.size, 0, none⟩ = false := Lib.frozen_of_heap Xg.out 0
  have kg1 : w19.cell? ⟨w8.heap.size, 1, none⟩ = some (Value.int .i64 C2) := (Lib.cell_of_heap Xg.out 1).trans rfl
  have fg1 : w19.frozen? ⟨w8.heap.size, 1, none⟩ = false := Lib.frozen_of_heap Xg.out 1
  have kg2 : w19.cell? ⟨w8.heap.size, 2, none⟩ = some (Value.slice a2 n2 c2) := (Lib.cell_of_heap Xg.out 2).trans rfl
  have fg2 : w19.frozen? ⟨w8.heap.size, 2, none⟩ = false := Lib.frozen_of_heap Xg.out 2
  have zg : w8.heap.size < w19.heap.size := hlt Xg.out
  have kh0 : w19.cell? ⟨w16.heap.size, 0, none⟩ = some (Value.int .i64 R2) := (Lib.cell_of_heap Xh.out 0).trans rfl
  have fh0 : w19.frozen? ⟨w16.heap.size, 0, none⟩ = false := Lib.frozen_of_heap Xh.out 0
  have kh1 : w19.cell? ⟨w16.heap.size, 1, none⟩ = some (Value.int .i64 C2) := (Lib.cell_of_heap Xh.out 1).trans rfl
  have fh1 : w19.frozen? ⟨w16.heap.size, 1, none⟩ = false := Lib.frozen_of_heap Xh.out 1
  have kh2 : w19.cell? ⟨w16.heap.size, 2, none⟩ = some (Value.slice a4 n2 c4) := (Lib.cell_of_heap Xh.out 2).trans rfl
  have fh2 : w19.frozen? ⟨w16.heap.size, 2, none⟩ = false := Lib.frozen_of_heap Xh.out 2
  have zh : w16.heap.size < w19.heap.size := hlt Xh.out
  rw [HTT.out]
  go_wp2
  go_ret
  exact ⟨rfl, HB.out⟩
end Go.Proofs.Yteljkjpcjjiidaa
