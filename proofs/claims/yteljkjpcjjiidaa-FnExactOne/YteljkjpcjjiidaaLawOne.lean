/- One of both at any int, and the walk of the exact law of One. -/
import Derived.Test.YteljkjpcjjiidaaOneL
import Derived.Test.YteljkjpcjjiidaaGo
namespace Go.Proofs.Yteljkjpcjjiidaa
open Go.RowKit
set_option linter.unusedVariables false
set_option maxRecDepth 20000

/-- what One answers -/
def oneR (x : Int) : Int := if sideB x then x else 0
def oneN (x : Int) : Nat := if sideB x then x.toNat * x.toNat else 0
def oneE (x : Int) (j : Nat) : Bool × List Nat := numE (oneZ x.toNat x.toNat j)
theorem oneSA (x : Int) (w : World) :
    Calls Try.prog 23 #[.int .i64 x] w fun e w' => ∃ a p, e = .returned (.agg #[.int .i64 (oneR x), .int .i64 (oneR x), .slice a (oneN x) p]) ∧ BSeg w' (fun b => w.heap.size ≤ b ∧ b < w'.heap.size) a (oneN x) p (oneE x) ∧ Below w.heap.size w w' := by
  cases hx : sideB x with
  | false =>
    have e1 : oneR x = 0 := by unfold oneR; rw [hx]; rfl
    have e2 : oneN x = 0 := by unfold oneN; rw [hx]; rfl
    rw [e1, e2]
    exact (oneS_no x w hx).mono fun e w' ⟨he, hb⟩ => ⟨none, 0, he, ⟨Nat.le_refl _, by omega, .inl rfl⟩, hb⟩
  | true =>
    have e1 : oneR x = x := by unfold oneR; rw [hx]; rfl
    have e2 : oneN x = x.toNat * x.toNat := by unfold oneN; rw [hx]; rfl
    obtain ⟨h0, h1⟩ := side_iff.1 hx
    obtain ⟨n, rfl⟩ : ∃ n : Nat, x = (n : Int) := ⟨x.toNat, by omega⟩
    rw [e1, e2]
    exact oneS_yes n _ w (by omega) rfl
theorem oneIA (x : Int) (w : World) :
    Calls Try.prog 24 #[.int .i64 x] w fun e w' => ∃ v, e = .returned (.agg #[.int .i64 (oneR x), .int .i64 (oneR x), v]) ∧ GOwn w' w.heap.size w'.heap.size v (oneN x) (oneE x) ∧ Below w.heap.size w w' := by
  cases hx : sideB x with
  | false =>
    have e1 : oneR x = 0 := by unfold oneR; rw [hx]; rfl
    have e2 : oneN x = 0 := by unfold oneN; rw [hx]; rfl
    rw [e1, e2]
    exact (oneI_no x w hx).mono fun e w' ⟨he, hb⟩ => ⟨_, he, .inl ⟨rfl, rfl⟩, hb⟩
  | true =>
    have e1 : oneR x = x := by unfold oneR; rw [hx]; rfl
    have e2 : oneN x = x.toNat * x.toNat := by unfold oneN; rw [hx]; rfl
    obtain ⟨h0, h1⟩ := side_iff.1 hx
    obtain ⟨n, rfl⟩ : ∃ n : Nat, x = (n : Int) := ⟨x.toNat, by omega⟩
    rw [e1, e2]
    exact (oneI_yes n _ w (by omega) rfl).mono fun e w' ⟨g, A, he, ho, hb⟩ => ⟨_, he, ho.g, hb⟩
theorem one_small (x : Int) : 1 + oneN x + etot (oneE x) (oneN x) ≤ 1000 := by
  have h64 : oneN x ≤ 64 := by
    unfold oneN
    cases hx : sideB x with
    | false => simp
    | true =>
      obtain ⟨h0, h1⟩ := side_iff.1 hx
      have := Nat.mul_le_mul (show x.toNat ≤ 8 by omega) (show x.toNat ≤ 8 by omega)
      simpa using this
  have : ∀ n, etot (oneE x) n ≤ n := by
    intro n
    induction n with
    | zero => simp [etot]
    | succ n ih =>
      simp only [etot]
      have : (oneE x n).2.length ≤ 1 := by
        unfold oneE numE oneZ
        split
        · exact Num.limbs_len.2 (show (1 : Int).natAbs < 4294967296 ^ 1 by decide)
        · show (lms 0).length ≤ 1
          rw [zero_lms]; simp
      omega
  have := this (oneN x)
  omega

set_option maxHeartbeats 8000000 in
set_option maxRecDepth 20000 in
theorem walkOne (x : Int) (w : World) (hx1 : -9223372036854775808 ≤ x) (hx2 : x ≤ 9223372036854775807) :
    Calls Try.prog 5 #[.int .i64 x] w fun e w' => e = .returned (.bool true) ∧ Below w.heap.size w w' := by
  have HS := hide (oneSA x)
  have HI := hide (oneIA x)
  have hsm := one_small x
  generalize oneR x = R at *
  generalize oneN x = n at *
  generalize oneE x = E at *
  obtain ⟨T, hT⟩ : ∃ T, 1 + n + etot E n = T := ⟨_, rfl⟩
  have HT := hide hT
  have hTm : 1 + n + etot E n ≤ 3000000 := by omega
  have hTp : (0 : Int) ≤ (T : Int) := by omega
  have HTm := hide hTm
  clear hT hTm hsm
  have HB := hide (bl_refl w)
  go_enter Try.func5, Try.ntmps5
  go_wp2_with fail
  refine (HS.out w).mono ?_
  rintro e w1 ⟨a, p, rfl, hs, hb⟩
  have yw1 := hb.size
  replace HB := hide (bl_trans HB.out hb)
  clear hb
  have SS := hide hs
  clear hs
  go_wp2_with fail
  have Xs : Hid ((w1.alloc (Obj.cells #[Value.int .i64 R, Value.int .i64 R, Value.slice a n p] 29)).heap[w1.heap.size]? = some (.cells #[Value.int .i64 R, Value.int .i64 R, Value.slice a n p] 29 (0, 0))) := hide (hnew _ _)
  have hbn := (bl_alloc (bl_refl w1) (Obj.cells #[Value.int .i64 R, Value.int .i64 R, Value.slice a n p] 29))
  have yw2 : w1.heap.size + 1 ≤ (w1.alloc (Obj.cells #[Value.int .i64 R, Value.int .i64 R, Value.slice a n p] 29)).heap.size := by simp only [World.size_alloc]; omega
  generalize w1.alloc (Obj.cells #[Value.int .i64 R, Value.int .i64 R, Value.slice a n p] 29) = w2 at *
  replace SS := hide (SS.out.below hbn)
  replace HB := hide (bl_trans HB.out hbn)
  clear hbn
  have ks0 : w2.cell? ⟨w1.heap.size, 0, none⟩ = some (Value.int .i64 R) := (Lib.cell_of_heap Xs.out 0).trans rfl
  have fs0 : w2.frozen? ⟨w1.heap.size, 0, none⟩ = false := Lib.frozen_of_heap Xs.out 0
  have ks1 : w2.cell? ⟨w1.heap.size, 1, none⟩ = some (Value.int .i64 R) := (Lib.cell_of_heap Xs.out 1).trans rfl
  have fs1 : w2.frozen? ⟨w1.heap.size, 1, none⟩ = false := Lib.frozen_of_heap Xs.out 1
  have ks2 : w2.cell? ⟨w1.heap.size, 2, none⟩ = some (Value.slice a n p) := (Lib.cell_of_heap Xs.out 2).trans rfl
  have fs2 : w2.frozen? ⟨w1.heap.size, 2, none⟩ = false := Lib.frozen_of_heap Xs.out 2
  have zs : w1.heap.size < w2.heap.size := hlt Xs.out
  refine (HI.out w2).mono ?_
  rintro e w3 ⟨v, rfl, hg, hb⟩
  have yw3 := hb.size
  clear ks0 fs0 ks1 fs1 ks2 fs2 zs
  replace Xs := hide (hbel Xs.out hb (by first | assumption | omega))
  replace SS := hide (SS.out.below hb)
  replace HB := hide (bl_trans HB.out hb)
  clear hb
  have GG := hide hg
  clear hg
  have ks0 : w3.cell? ⟨w1.heap.size, 0, none⟩ = some (Value.int .i64 R) := (Lib.cell_of_heap Xs.out 0).trans rfl
  have fs0 : w3.frozen? ⟨w1.heap.size, 0, none⟩ = false := Lib.frozen_of_heap Xs.out 0
  have ks1 : w3.cell? ⟨w1.heap.size, 1, none⟩ = some (Value.int .i64 R) := (Lib.cell_of_heap Xs.out 1).trans rfl
  have fs1 : w3.frozen? ⟨w1.heap.size, 1, none⟩ = false := Lib.frozen_of_heap Xs.out 1
  have ks2 : w3.cell? ⟨w1.heap.size, 2, none⟩ = some (Value.slice a n p) := (Lib.cell_of_heap Xs.out 2).trans rfl
  have fs2 : w3.frozen? ⟨w1.heap.size, 2, none⟩ = false := Lib.frozen_of_heap Xs.out 2
  have zs : w1.heap.size < w3.heap.size := hlt Xs.out
  obtain ⟨a2, c2, ev, hs2⟩ := GG.out.seg
  subst ev
  clear hs2
  go_wp2_with fail
  have Xg : Hid ((w3.alloc (Obj.cells #[Value.int .i64 R, Value.int .i64 R, Value.slice a2 n c2] 29)).heap[w3.heap.size]? = some (.cells #[Value.int .i64 R, Value.int .i64 R, Value.slice a2 n c2] 29 (0, 0))) := hide (hnew _ _)
  have hbn := (bl_alloc (bl_refl w3) (Obj.cells #[Value.int .i64 R, Value.int .i64 R, Value.slice a2 n c2] 29))
  have yw4 : w3.heap.size + 1 ≤ (w3.alloc (Obj.cells #[Value.int .i64 R, Value.int .i64 R, Value.slice a2 n c2] 29)).heap.size := by simp only [World.size_alloc]; omega
  generalize w3.alloc (Obj.cells #[Value.int .i64 R, Value.int .i64 R, Value.slice a2 n c2] 29) = w4 at *
  clear ks0 fs0 ks1 fs1 ks2 fs2 zs
  replace Xs := hide (hbel Xs.out hbn (by first | assumption | omega))
  replace SS := hide (SS.out.below hbn)
  replace GG := hide (GG.out.below hbn)
  replace HB := hide (bl_trans HB.out hbn)
  clear hbn
  have ks0 : w4.cell? ⟨w1.heap.size, 0, none⟩ = some (Value.int .i64 R) := (Lib.cell_of_heap Xs.out 0).trans rfl
  have fs0 : w4.frozen? ⟨w1.heap.size, 0, none⟩ = false := Lib.frozen_of_heap Xs.out 0
  have ks1 : w4.cell? ⟨w1.heap.size, 1, none⟩ = some (Value.int .i64 R) := (Lib.cell_of_heap Xs.out 1).trans rfl
  have fs1 : w4.frozen? ⟨w1.heap.size, 1, none⟩ = false := Lib.frozen_of_heap Xs.out 1
  have ks2 : w4.cell? ⟨w1.heap.size, 2, none⟩ = some (Value.slice a n p) := (Lib.cell_of_heap Xs.out 2).trans rfl
  have fs2 : w4.frozen? ⟨w1.heap.size, 2, none⟩ = false := Lib.frozen_of_heap Xs.out 2
  have zs : w1.heap.size < w4.heap.size := hlt Xs.out
  have kg0 : w4.cell? ⟨w3.heap.size, 0, none⟩ = some (Value.int .i64 R) := (Lib.cell_of_heap Xg.out 0).trans rfl
  have fg0 : w4.frozen? ⟨w3.heap.size, 0, none⟩ = false := Lib.frozen_of_heap Xg.out 0
  have kg1 : w4.cell? ⟨w3.heap.size, 1, none⟩ = some (Value.int .i64 R) := (Lib.cell_of_heap Xg.out 1).trans rfl
  have fg1 : w4.frozen? ⟨w3.heap.size, 1, none⟩ = false := Lib.frozen_of_heap Xg.out 1
  have kg2 : w4.cell? ⟨w3.heap.size, 2, none⟩ = some (Value.slice a2 n c2) := (Lib.cell_of_heap Xg.out 2).trans rfl
  have fg2 : w4.frozen? ⟨w3.heap.size, 2, none⟩ = false := Lib.frozen_of_heap Xg.out 2
  have zg : w3.heap.size < w4.heap.size := hlt Xg.out
  obtain ⟨a3, c3, ev, hs2⟩ := GG.out.seg
  cases ev
  refine (eqM R R a2 a n c2 p _ _ E w4 hs2 SS.out).mono ?_
  rintro e w5 ⟨rfl, hb⟩
  have yw5 := hb.size
  clear ks0 fs0 ks1 fs1 ks2 fs2 zs
  clear kg0 fg0 kg1 fg1 kg2 fg2 zg
  replace Xs := hide (hbel Xs.out hb (by first | assumption | omega))
  replace Xg := hide (hbel Xg.out hb (by first | assumption | omega))
  replace SS := hide (SS.out.below hb)
  replace GG := hide (GG.out.below hb)
  replace HB := hide (bl_trans HB.out hb)
  clear hb
  have ks0 : w5.cell? ⟨w1.heap.size, 0, none⟩ = some (Value.int .i64 R) := (Lib.cell_of_heap Xs.out 0).trans rfl
  have fs0 : w5.frozen? ⟨w1.heap.size, 0, none⟩ = false := Lib.frozen_of_heap Xs.out 0
  have ks1 : w5.cell? ⟨w1.heap.size, 1, none⟩ = some (Value.int .i64 R) := (Lib.cell_of_heap Xs.out 1).trans rfl
  have fs1 : w5.frozen? ⟨w1.heap.size, 1, none⟩ = false := Lib.frozen_of_heap Xs.out 1
  have ks2 : w5.cell? ⟨w1.heap.size, 2, none⟩ = some (Value.slice a n p) := (Lib.cell_of_heap Xs.out 2).trans rfl
  have fs2 : w5.frozen? ⟨w1.heap.size, 2, none⟩ = false := Lib.frozen_of_heap Xs.out 2
  have zs : w1.heap.size < w5.heap.size := hlt Xs.out
  have kg0 : w5.cell? ⟨w3.heap.size, 0, none⟩ = some (Value.int .i64 R) := (Lib.cell_of_heap Xg.out 0).trans rfl
  have fg0 : w5.frozen? ⟨w3.heap.size, 0, none⟩ = false := Lib.frozen_of_heap Xg.out 0
  have kg1 : w5.cell? ⟨w3.heap.size, 1, none⟩ = some (Value.int .i64 R) := (Lib.cell_of_heap Xg.out 1).trans rfl
  have fg1 : w5.frozen? ⟨w3.heap.size, 1, none⟩ = false := Lib.frozen_of_heap Xg.out 1
  have kg2 : w5.cell? ⟨w3.heap.size, 2, none⟩ = some (Value.slice a2 n c2) := (Lib.cell_of_heap Xg.out 2).trans rfl
  have fg2 : w5.frozen? ⟨w3.heap.size, 2, none⟩ = false := Lib.frozen_of_heap Xg.out 2
  have zg : w3.heap.size < w5.heap.size := hlt Xg.out
  clear hs2
  go_wp2_with fail
  refine (markMe R R _ n E w2.heap.size w3.heap.size 1 1 w5 rfl HTm.out GG.out).mono ?_
  rintro e w6 ⟨rfl, hg, hc⟩
  have yw6 := hc.size
  clear ks0 fs0 ks1 fs1 ks2 fs2 zs
  clear kg0 fg0 kg1 fg1 kg2 fg2 zg
  clear GG
  replace Xs := hide (hc.heap Xs.out (fun q => by omega))
  replace Xg := hide (hc.heap Xg.out (fun q => by omega))
  replace SS := hide (SS.out.chg hc (fun b q1 q => by omega))
  replace HB := hide (Chg.keep HB.out hc (fun k q => by omega) HB.out.size)
  have GG := hide hg
  clear hg
  clear hc
  have ks0 : w6.cell? ⟨w1.heap.size, 0, none⟩ = some (Value.int .i64 R) := (Lib.cell_of_heap Xs.out 0).trans rfl
  have fs0 : w6.frozen? ⟨w1.heap.size, 0, none⟩ = false := Lib.frozen_of_heap Xs.out 0
  have ks1 : w6.cell? ⟨w1.heap.size, 1, none⟩ = some (Value.int .i64 R) := (Lib.cell_of_heap Xs.out 1).trans rfl
  have fs1 : w6.frozen? ⟨w1.heap.size, 1, none⟩ = false := Lib.frozen_of_heap Xs.out 1
  have ks2 : w6.cell? ⟨w1.heap.size, 2, none⟩ = some (Value.slice a n p) := (Lib.cell_of_heap Xs.out 2).trans rfl
  have fs2 : w6.frozen? ⟨w1.heap.size, 2, none⟩ = false := Lib.frozen_of_heap Xs.out 2
  have zs : w1.heap.size < w6.heap.size := hlt Xs.out
  have kg0 : w6.cell? ⟨w3.heap.size, 0, none⟩ = some (Value.int .i64 R) := (Lib.cell_of_heap Xg.out 0).trans rfl
  have fg0 : w6.frozen? ⟨w3.heap.size, 0, none⟩ = false := Lib.frozen_of_heap Xg.out 0
  have kg1 : w6.cell? ⟨w3.heap.size, 1, none⟩ = some (Value.int .i64 R) := (Lib.cell_of_heap Xg.out 1).trans rfl
  have fg1 : w6.frozen? ⟨w3.heap.size, 1, none⟩ = false := Lib.frozen_of_heap Xg.out 1
  have kg2 : w6.cell? ⟨w3.heap.size, 2, none⟩ = some (Value.slice a2 n c2) := (Lib.cell_of_heap Xg.out 2).trans rfl
  have fg2 : w6.frozen? ⟨w3.heap.size, 2, none⟩ = false := Lib.frozen_of_heap Xg.out 2
  have zg : w3.heap.size < w6.heap.size := hlt Xg.out
  rw [HT.out]
  go_wp2_with fail
  obtain ⟨a3, c3, ev, hs3⟩ := GG.out.seg
  cases ev
  refine (heldMe R R a2 n c2 _ E 1 1 w6 rfl HTm.out hs3).mono ?_
  rintro e w7 ⟨rfl, hb⟩
  have yw7 := hb.size
  clear ks0 fs0 ks1 fs1 ks2 fs2 zs
  clear kg0 fg0 kg1 fg1 kg2 fg2 zg
  replace Xs := hide (hbel Xs.out hb (by first | assumption | omega))
  replace Xg := hide (hbel Xg.out hb (by first | assumption | omega))
  replace SS := hide (SS.out.below hb)
  replace GG := hide (GG.out.below hb)
  replace HB := hide (bl_trans HB.out hb)
  clear hb
  have ks0 : w7.cell? ⟨w1.heap.size, 0, none⟩ = some (Value.int .i64 R) := (Lib.cell_of_heap Xs.out 0).trans rfl
  have fs0 : w7.frozen? ⟨w1.heap.size, 0, none⟩ = false := Lib.frozen_of_heap Xs.out 0
  have ks1 : w7.cell? ⟨w1.heap.size, 1, none⟩ = some (Value.int .i64 R) := (Lib.cell_of_heap Xs.out 1).trans rfl
  have fs1 : w7.frozen? ⟨w1.heap.size, 1, none⟩ = false := Lib.frozen_of_heap Xs.out 1
  have ks2 : w7.cell? ⟨w1.heap.size, 2, none⟩ = some (Value.slice a n p) := (Lib.cell_of_heap Xs.out 2).trans rfl
  have fs2 : w7.frozen? ⟨w1.heap.size, 2, none⟩ = false := Lib.frozen_of_heap Xs.out 2
  have zs : w1.heap.size < w7.heap.size := hlt Xs.out
  have kg0 : w7.cell? ⟨w3.heap.size, 0, none⟩ = some (Value.int .i64 R) := (Lib.cell_of_heap Xg.out 0).trans rfl
  have fg0 : w7.frozen? ⟨w3.heap.size, 0, none⟩ = false := Lib.frozen_of_heap Xg.out 0
  have kg1 : w7.cell? ⟨w3.heap.size, 1, none⟩ = some (Value.int .i64 R) := (Lib.cell_of_heap Xg.out 1).trans rfl
  have fg1 : w7.frozen? ⟨w3.heap.size, 1, none⟩ = false := Lib.frozen_of_heap Xg.out 1
  have kg2 : w7.cell? ⟨w3.heap.size, 2, none⟩ = some (Value.slice a2 n c2) := (Lib.cell_of_heap Xg.out 2).trans rfl
  have fg2 : w7.frozen? ⟨w3.heap.size, 2, none⟩ = false := Lib.frozen_of_heap Xg.out 2
  have zg : w3.heap.size < w7.heap.size := hlt Xg.out
  clear hs3
  rw [HT.out]
  go_wp2_with fail
  refine (HI.out w7).mono ?_
  rintro e w8 ⟨v4, rfl, hg4, hb⟩
  have yw8 := hb.size
  clear ks0 fs0 ks1 fs1 ks2 fs2 zs
  clear kg0 fg0 kg1 fg1 kg2 fg2 zg
  replace Xs := hide (hbel Xs.out hb (by first | assumption | omega))
  replace Xg := hide (hbel Xg.out hb (by first | assumption | omega))
  replace SS := hide (SS.out.below hb)
  replace GG := hide (GG.out.below hb)
  replace HB := hide (bl_trans HB.out hb)
  clear hb
  have G4 := hide hg4
  clear hg4
  have ks0 : w8.cell? ⟨w1.heap.size, 0, none⟩ = some (Value.int .i64 R) := (Lib.cell_of_heap Xs.out 0).trans rfl
  have fs0 : w8.frozen? ⟨w1.heap.size, 0, none⟩ = false := Lib.frozen_of_heap Xs.out 0
  have ks1 : w8.cell? ⟨w1.heap.size, 1, none⟩ = some (Value.int .i64 R) := (Lib.cell_of_heap Xs.out 1).trans rfl
  have fs1 : w8.frozen? ⟨w1.heap.size, 1, none⟩ = false := Lib.frozen_of_heap Xs.out 1
  have ks2 : w8.cell? ⟨w1.heap.size, 2, none⟩ = some (Value.slice a n p) := (Lib.cell_of_heap Xs.out 2).trans rfl
  have fs2 : w8.frozen? ⟨w1.heap.size, 2, none⟩ = false := Lib.frozen_of_heap Xs.out 2
  have zs : w1.heap.size < w8.heap.size := hlt Xs.out
  have kg0 : w8.cell? ⟨w3.heap.size, 0, none⟩ = some (Value.int .i64 R) := (Lib.cell_of_heap Xg.out 0).trans rfl
  have fg0 : w8.frozen? ⟨w3.heap.size, 0, none⟩ = false := Lib.frozen_of_heap Xg.out 0
  have kg1 : w8.cell? ⟨w3.heap.size, 1, none⟩ = some (Value.int .i64 R) := (Lib.cell_of_heap Xg.out 1).trans rfl
  have fg1 : w8.frozen? ⟨w3.heap.size, 1, none⟩ = false := Lib.frozen_of_heap Xg.out 1
  have kg2 : w8.cell? ⟨w3.heap.size, 2, none⟩ = some (Value.slice a2 n c2) := (Lib.cell_of_heap Xg.out 2).trans rfl
  have fg2 : w8.frozen? ⟨w3.heap.size, 2, none⟩ = false := Lib.frozen_of_heap Xg.out 2
  have zg : w3.heap.size < w8.heap.size := hlt Xg.out
  obtain ⟨a4, c4, ev, hs4⟩ := G4.out.seg
  subst ev
  clear hs4
  go_wp2_with fail
  have Xh : Hid ((w8.alloc (Obj.cells #[Value.int .i64 R, Value.int .i64 R, Value.slice a4 n c4] 29)).heap[w8.heap.size]? = some (.cells #[Value.int .i64 R, Value.int .i64 R, Value.slice a4 n c4] 29 (0, 0))) := hide (hnew _ _)
  have hbn := (bl_alloc (bl_refl w8) (Obj.cells #[Value.int .i64 R, Value.int .i64 R, Value.slice a4 n c4] 29))
  have yw9 : w8.heap.size + 1 ≤ (w8.alloc (Obj.cells #[Value.int .i64 R, Value.int .i64 R, Value.slice a4 n c4] 29)).heap.size := by simp only [World.size_alloc]; omega
  generalize w8.alloc (Obj.cells #[Value.int .i64 R, Value.int .i64 R, Value.slice a4 n c4] 29) = w9 at *
  clear ks0 fs0 ks1 fs1 ks2 fs2 zs
  clear kg0 fg0 kg1 fg1 kg2 fg2 zg
  replace Xs := hide (hbel Xs.out hbn (by first | assumption | omega))
  replace Xg := hide (hbel Xg.out hbn (by first | assumption | omega))
  replace SS := hide (SS.out.below hbn)
  replace GG := hide (GG.out.below hbn)
  replace G4 := hide (G4.out.below hbn)
  replace HB := hide (bl_trans HB.out hbn)
  clear hbn
  have ks0 : w9.cell? ⟨w1.heap.size, 0, none⟩ = some (Value.int .i64 R) := (Lib.cell_of_heap Xs.out 0).trans rfl
  have fs0 : w9.frozen? ⟨w1.heap.size, 0, none⟩ = false := Lib.frozen_of_heap Xs.out 0
  have ks1 : w9.cell? ⟨w1.heap.size, 1, none⟩ = some (Value.int .i64 R) := (Lib.cell_of_heap Xs.out 1).trans rfl
  have fs1 : w9.frozen? ⟨w1.heap.size, 1, none⟩ = false := Lib.frozen_of_heap Xs.out 1
  have ks2 : w9.cell? ⟨w1.heap.size, 2, none⟩ = some (Value.slice a n p) := (Lib.cell_of_heap Xs.out 2).trans rfl
  have fs2 : w9.frozen? ⟨w1.heap.size, 2, none⟩ = false := Lib.frozen_of_heap Xs.out 2
  have zs : w1.heap.size < w9.heap.size := hlt Xs.out
  have kg0 : w9.cell? ⟨w3.heap.size, 0, none⟩ = some (Value.int .i64 R) := (Lib.cell_of_heap Xg.out 0).trans rfl
  have fg0 : w9.frozen? ⟨w3.heap.size, 0, none⟩ = false := Lib.frozen_of_heap Xg.out 0
  have kg1 : w9.cell? ⟨w3.heap.size, 1, none⟩ = some (Value.int .i64 R) := (Lib.cell_of_heap Xg.out 1).trans rfl
  have fg1 : w9.frozen? ⟨w3.heap.size, 1, none⟩ = false := Lib.frozen_of_heap Xg.out 1
  have kg2 : w9.cell? ⟨w3.heap.size, 2, none⟩ = some (Value.slice a2 n c2) := (Lib.cell_of_heap Xg.out 2).trans rfl
  have fg2 : w9.frozen? ⟨w3.heap.size, 2, none⟩ = false := Lib.frozen_of_heap Xg.out 2
  have zg : w3.heap.size < w9.heap.size := hlt Xg.out
  have kh0 : w9.cell? ⟨w8.heap.size, 0, none⟩ = some (Value.int .i64 R) := (Lib.cell_of_heap Xh.out 0).trans rfl
  have fh0 : w9.frozen? ⟨w8.heap.size, 0, none⟩ = false := Lib.frozen_of_heap Xh.out 0
  have kh1 : w9.cell? ⟨w8.heap.size, 1, none⟩ = some (Value.int .i64 R) := (Lib.cell_of_heap Xh.out 1).trans rfl
  have fh1 : w9.frozen? ⟨w8.heap.size, 1, none⟩ = false := Lib.frozen_of_heap Xh.out 1
  have kh2 : w9.cell? ⟨w8.heap.size, 2, none⟩ = some (Value.slice a4 n c4) := (Lib.cell_of_heap Xh.out 2).trans rfl
  have fh2 : w9.frozen? ⟨w8.heap.size, 2, none⟩ = false := Lib.frozen_of_heap Xh.out 2
  have zh : w8.heap.size < w9.heap.size := hlt Xh.out
  obtain ⟨a5, c5, ev, hs4⟩ := G4.out.seg
  cases ev
  refine (eqM R R a4 a n c4 p _ _ E w9 hs4 SS.out).mono ?_
  rintro e w10 ⟨rfl, hb⟩
  have yw10 := hb.size
  clear ks0 fs0 ks1 fs1 ks2 fs2 zs
  clear kg0 fg0 kg1 fg1 kg2 fg2 zg
  clear kh0 fh0 kh1 fh1 kh2 fh2 zh
  replace Xs := hide (hbel Xs.out hb (by first | assumption | omega))
  replace Xg := hide (hbel Xg.out hb (by first | assumption | omega))
  replace Xh := hide (hbel Xh.out hb (by first | assumption | omega))
  replace SS := hide (SS.out.below hb)
  replace GG := hide (GG.out.below hb)
  replace G4 := hide (G4.out.below hb)
  replace HB := hide (bl_trans HB.out hb)
  clear hb
  have ks0 : w10.cell? ⟨w1.heap.size, 0, none⟩ = some (Value.int .i64 R) := (Lib.cell_of_heap Xs.out 0).trans rfl
  have fs0 : w10.frozen? ⟨w1.heap.size, 0, none⟩ = false := Lib.frozen_of_heap Xs.out 0
  have ks1 : w10.cell? ⟨w1.heap.size, 1, none⟩ = some (Value.int .i64 R) := (Lib.cell_of_heap Xs.out 1).trans rfl
  have fs1 : w10.frozen? ⟨w1.heap.size, 1, none⟩ = false := Lib.frozen_of_heap Xs.out 1
  have ks2 : w10.cell? ⟨w1.heap.size, 2, none⟩ = some (Value.slice a n p) := (Lib.cell_of_heap Xs.out 2).trans rfl
  have fs2 : w10.frozen? ⟨w1.heap.size, 2, none⟩ = false := Lib.frozen_of_heap Xs.out 2
  have zs : w1.heap.size < w10.heap.size := hlt Xs.out
  have kg0 : w10.cell? ⟨w3.heap.size, 0, none⟩ = some (Value.int .i64 R) := (Lib.cell_of_heap Xg.out 0).trans rfl
  have fg0 : w10.frozen? ⟨w3.heap.size, 0, none⟩ = false := Lib.frozen_of_heap Xg.out 0
  have kg1 : w10.cell? ⟨w3.heap.size, 1, none⟩ = some (Value.int .i64 R) := (Lib.cell_of_heap Xg.out 1).trans rfl
  have fg1 : w10.frozen? ⟨w3.heap.size, 1, none⟩ = false := Lib.frozen_of_heap Xg.out 1
  have kg2 : w10.cell? ⟨w3.heap.size, 2, none⟩ = some (Value.slice a2 n c2) := (Lib.cell_of_heap Xg.out 2).trans rfl
  have fg2 : w10.frozen? ⟨w3.heap.size, 2, none⟩ = false := Lib.frozen_of_heap Xg.out 2
  have zg : w3.heap.size < w10.heap.size := hlt Xg.out
  have kh0 : w10.cell? ⟨w8.heap.size, 0, none⟩ = some (Value.int .i64 R) := (Lib.cell_of_heap Xh.out 0).trans rfl
  have fh0 : w10.frozen? ⟨w8.heap.size, 0, none⟩ = false := Lib.frozen_of_heap Xh.out 0
  have kh1 : w10.cell? ⟨w8.heap.size, 1, none⟩ = some (Value.int .i64 R) := (Lib.cell_of_heap Xh.out 1).trans rfl
  have fh1 : w10.frozen? ⟨w8.heap.size, 1, none⟩ = false := Lib.frozen_of_heap Xh.out 1
  have kh2 : w10.cell? ⟨w8.heap.size, 2, none⟩ = some (Value.slice a4 n c4) := (Lib.cell_of_heap Xh.out 2).trans rfl
  have fh2 : w10.frozen? ⟨w8.heap.size, 2, none⟩ = false := Lib.frozen_of_heap Xh.out 2
  have zh : w8.heap.size < w10.heap.size := hlt Xh.out
  clear hs4
  go_wp2_with fail
  obtain ⟨a5, c5, ev, hs5⟩ := GG.out.seg
  cases ev
  refine (heldMe R R a2 n c2 _ E 1 1 w10 rfl HTm.out hs5).mono ?_
  rintro e w11 ⟨rfl, hb⟩
  have yw11 := hb.size
  clear ks0 fs0 ks1 fs1 ks2 fs2 zs
  clear kg0 fg0 kg1 fg1 kg2 fg2 zg
  clear kh0 fh0 kh1 fh1 kh2 fh2 zh
  replace Xs := hide (hbel Xs.out hb (by first | assumption | omega))
  replace Xg := hide (hbel Xg.out hb (by first | assumption | omega))
  replace Xh := hide (hbel Xh.out hb (by first | assumption | omega))
  replace SS := hide (SS.out.below hb)
  replace GG := hide (GG.out.below hb)
  replace G4 := hide (G4.out.below hb)
  replace HB := hide (bl_trans HB.out hb)
  clear hb
  have ks0 : w11.cell? ⟨w1.heap.size, 0, none⟩ = some (Value.int .i64 R) := (Lib.cell_of_heap Xs.out 0).trans rfl
  have fs0 : w11.frozen? ⟨w1.heap.size, 0, none⟩ = false := Lib.frozen_of_heap Xs.out 0
  have ks1 : w11.cell? ⟨w1.heap.size, 1, none⟩ = some (Value.int .i64 R) := (Lib.cell_of_heap Xs.out 1).trans rfl
  have fs1 : w11.frozen? ⟨w1.heap.size, 1, none⟩ = false := Lib.frozen_of_heap Xs.out 1
  have ks2 : w11.cell? ⟨w1.heap.size, 2, none⟩ = some (Value.slice a n p) := (Lib.cell_of_heap Xs.out 2).trans rfl
  have fs2 : w11.frozen? ⟨w1.heap.size, 2, none⟩ = false := Lib.frozen_of_heap Xs.out 2
  have zs : w1.heap.size < w11.heap.size := hlt Xs.out
  have kg0 : w11.cell? ⟨w3.heap.size, 0, none⟩ = some (Value.int .i64 R) := (Lib.cell_of_heap Xg.out 0).trans rfl
  have fg0 : w11.frozen? ⟨w3.heap.size, 0, none⟩ = false := Lib.frozen_of_heap Xg.out 0
  have kg1 : w11.cell? ⟨w3.heap.size, 1, none⟩ = some (Value.int .i64 R) := (Lib.cell_of_heap Xg.out 1).trans rfl
  have fg1 : w11.frozen? ⟨w3.heap.size, 1, none⟩ = false := Lib.frozen_of_heap Xg.out 1
  have kg2 : w11.cell? ⟨w3.heap.size, 2, none⟩ = some (Value.slice a2 n c2) := (Lib.cell_of_heap Xg.out 2).trans rfl
  have fg2 : w11.frozen? ⟨w3.heap.size, 2, none⟩ = false := Lib.frozen_of_heap Xg.out 2
  have zg : w3.heap.size < w11.heap.size := hlt Xg.out
  have kh0 : w11.cell? ⟨w8.heap.size, 0, none⟩ = some (Value.int .i64 R) := (Lib.cell_of_heap Xh.out 0).trans rfl
  have fh0 : w11.frozen? ⟨w8.heap.size, 0, none⟩ = false := Lib.frozen_of_heap Xh.out 0
  have kh1 : w11.cell? ⟨w8.heap.size, 1, none⟩ = some (Value.int .i64 R) := (Lib.cell_of_heap Xh.out 1).trans rfl
  have fh1 : w11.frozen? ⟨w8.heap.size, 1, none⟩ = false := Lib.frozen_of_heap Xh.out 1
  have kh2 : w11.cell? ⟨w8.heap.size, 2, none⟩ = some (Value.slice a4 n c4) := (Lib.cell_of_heap Xh.out 2).trans rfl
  have fh2 : w11.frozen? ⟨w8.heap.size, 2, none⟩ = false := Lib.frozen_of_heap Xh.out 2
  have zh : w8.heap.size < w11.heap.size := hlt Xh.out
  clear hs5
  rw [HT.out]
  go_wp2
  go_ret
  exact ⟨rfl, HB.out⟩
end Go.Proofs.Yteljkjpcjjiidaa
