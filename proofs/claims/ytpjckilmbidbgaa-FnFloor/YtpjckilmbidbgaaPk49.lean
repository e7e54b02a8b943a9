/- My texts DrQ, in this order. -/
import Derived.Test.YtpjckilmbidbgaaPk42
import Derived.Test.YtpjckilmbidbgaaPk48
/- The walks of the draws of the laws, and of whether two fractions are alike. -/
namespace Go.Proofs.Ytpjckilmbidbgaa
open Go.RowKit
set_option linter.unusedVariables false

theorem own4 {w1 : World} {N b n c : Nat} {a : Option Addr} {xs : List Nat} (h : Own w1 b a n c xs) (hN : N < b) (x y z t : Value) : Own ((((w1.setCell ⟨N, 0, none⟩ x).setCell ⟨N, 1, none⟩ y).setCell ⟨N, 2, none⟩ z).setCell ⟨N, 3, none⟩ t) b a n c xs :=
  (((h.setCell (p := ⟨N, 0, none⟩) hN x).setCell (p := ⟨N, 1, none⟩) hN y).setCell (p := ⟨N, 2, none⟩) hN z).setCell (p := ⟨N, 3, none⟩) hN t
theorem Only.drew {B : Nat} {a w : World} (h : Only B a w) : Only B a w.drew := ⟨h.os, h.tape, h.output, h.size, h.block⟩
theorem only_of_drew {B : Nat} {a w : World} (h : Only B a.drew w) : Only B a w := ⟨h.os, h.tape, h.output, h.size, h.block⟩
theorem Cur.drew {B : Nat} {a : Option Addr} {len cap : Nat} {w : World} (h : Cur B a len cap w) : Cur B a len cap w.drew := h.drewN 1
set_option maxHeartbeats 2000000 in
theorem sameR (n : Bool) (xs : List Nat) (m : Bool) (ys : List Nat) (a1 : Option Addr) (c1 : Nat) (b1 : Option Addr) (e1 : Nat) (a2 : Option Addr) (c2 : Nat) (b2 : Option Addr) (e2 : Nat) (w : World)
    (s1 : Seg w a1 xs.length c1 xs) (t1 : Seg w b1 ys.length e1 ys) (s2 : Seg w a2 xs.length c2 xs) (t2 : Seg w b2 ys.length e2 ys) :
    Calls Try.prog 12 #[.agg #[.bool n, .slice a1 xs.length c1, .bool m, .slice b1 ys.length e1], .agg #[.bool n, .slice a2 xs.length c2, .bool m, .slice b2 ys.length e2]] w fun e w' => e = .returned (.bool true) ∧ Below w.heap.size w w' := by
  have ka0 : ((w.alloc (Obj.cells #[Value.bool n, Value.slice a1 xs.length c1, Value.bool m, Value.slice b1 ys.length e1] 28)).alloc (Obj.cells #[Value.bool n, Value.slice a2 xs.length c2, Value.bool m, Value.slice b2 ys.length e2] 28)).cell? ⟨w.heap.size, 0, none⟩ = some (Value.bool n) := by go_simp
  have ka1 : ((w.alloc (Obj.cells #[Value.bool n, Value.slice a1 xs.length c1, Value.bool m, Value.slice b1 ys.length e1] 28)).alloc (Obj.cells #[Value.bool n, Value.slice a2 xs.length c2, Value.bool m, Value.slice b2 ys.length e2] 28)).cell? ⟨w.heap.size, 1, none⟩ = some (Value.slice a1 xs.length c1) := by go_simp
  have ka2 : ((w.alloc (Obj.cells #[Value.bool n, Value.slice a1 xs.length c1, Value.bool m, Value.slice b1 ys.length e1] 28)).alloc (Obj.cells #[Value.bool n, Value.slice a2 xs.length c2, Value.bool m, Value.slice b2 ys.length e2] 28)).cell? ⟨w.heap.size, 2, none⟩ = some (Value.bool m) := by go_simp
  have ka3 : ((w.alloc (Obj.cells #[Value.bool n, Value.slice a1 xs.length c1, Value.bool m, Value.slice b1 ys.length e1] 28)).alloc (Obj.cells #[Value.bool n, Value.slice a2 xs.length c2, Value.bool m, Value.slice b2 ys.length e2] 28)).cell? ⟨w.heap.size, 3, none⟩ = some (Value.slice b1 ys.length e1) := by go_simp
  have kb0 : ((w.alloc (Obj.cells #[Value.bool n, Value.slice a1 xs.length c1, Value.bool m, Value.slice b1 ys.length e1] 28)).alloc (Obj.cells #[Value.bool n, Value.slice a2 xs.length c2, Value.bool m, Value.slice b2 ys.length e2] 28)).cell? ⟨w.heap.size + 1, 0, none⟩ = some (Value.bool n) := by go_simp
  have kb1 : ((w.alloc (Obj.cells #[Value.bool n, Value.slice a1 xs.length c1, Value.bool m, Value.slice b1 ys.length e1] 28)).alloc (Obj.cells #[Value.bool n, Value.slice a2 xs.length c2, Value.bool m, Value.slice b2 ys.length e2] 28)).cell? ⟨w.heap.size + 1, 1, none⟩ = some (Value.slice a2 xs.length c2) := by go_simp
  have kb2 : ((w.alloc (Obj.cells #[Value.bool n, Value.slice a1 xs.length c1, Value.bool m, Value.slice b1 ys.length e1] 28)).alloc (Obj.cells #[Value.bool n, Value.slice a2 xs.length c2, Value.bool m, Value.slice b2 ys.length e2] 28)).cell? ⟨w.heap.size + 1, 2, none⟩ = some (Value.bool m) := by go_simp
  have kb3 : ((w.alloc (Obj.cells #[Value.bool n, Value.slice a1 xs.length c1, Value.bool m, Value.slice b1 ys.length e1] 28)).alloc (Obj.cells #[Value.bool n, Value.slice a2 xs.length c2, Value.bool m, Value.slice b2 ys.length e2] 28)).cell? ⟨w.heap.size + 1, 3, none⟩ = some (Value.slice b2 ys.length e2) := by go_simp
  have za : w.heap.size < ((w.alloc (Obj.cells #[Value.bool n, Value.slice a1 xs.length c1, Value.bool m, Value.slice b1 ys.length e1] 28)).alloc (Obj.cells #[Value.bool n, Value.slice a2 xs.length c2, Value.bool m, Value.slice b2 ys.length e2] 28)).heap.size := by simp only [World.size_alloc]; omega
  have zb : w.heap.size + 1 < ((w.alloc (Obj.cells #[Value.bool n, Value.slice a1 xs.length c1, Value.bool m, Value.slice b1 ys.length e1] 28)).alloc (Obj.cells #[Value.bool n, Value.slice a2 xs.length c2, Value.bool m, Value.slice b2 ys.length e2] 28)).heap.size := by simp only [World.size_alloc]; omega
  have HB := hide (bl_alloc (bl_alloc (bl_refl w) (Obj.cells #[Value.bool n, Value.slice a1 xs.length c1, Value.bool m, Value.slice b1 ys.length e1] 28)) (Obj.cells #[Value.bool n, Value.slice a2 xs.length c2, Value.bool m, Value.slice b2 ys.length e2] 28))
  have S1 := hide (s1.below HB.out)
  have T1 := hide (t1.below HB.out)
  have S2 := hide (s2.below HB.out)
  have T2 := hide (t2.below HB.out)
  clear s1 t1 s2 t2
  go_enter Try.func12, Try.ntmps12
  go_wp2_with fail
  generalize ((w.alloc (Obj.cells #[Value.bool n, Value.slice a1 xs.length c1, Value.bool m, Value.slice b1 ys.length e1] 28)).alloc (Obj.cells #[Value.bool n, Value.slice a2 xs.length c2, Value.bool m, Value.slice b2 ys.length e2] 28)) = w1 at *
  refine (sameB n xs a1 c1 a2 c2 _ S1.out S2.out).mono ?_
  rintro e w2 ⟨rfl, hb⟩
  replace ka0 := (hb.cell (p := ⟨w.heap.size, 0, none⟩) za).trans ka0
  replace ka1 := (hb.cell (p := ⟨w.heap.size, 1, none⟩) za).trans ka1
  replace ka2 := (hb.cell (p := ⟨w.heap.size, 2, none⟩) za).trans ka2
  replace ka3 := (hb.cell (p := ⟨w.heap.size, 3, none⟩) za).trans ka3
  replace kb0 := (hb.cell (p := ⟨w.heap.size + 1, 0, none⟩) zb).trans kb0
  replace kb1 := (hb.cell (p := ⟨w.heap.size + 1, 1, none⟩) zb).trans kb1
  replace kb2 := (hb.cell (p := ⟨w.heap.size + 1, 2, none⟩) zb).trans kb2
  replace kb3 := (hb.cell (p := ⟨w.heap.size + 1, 3, none⟩) zb).trans kb3
  replace T1 := hide (T1.out.below hb)
  replace T2 := hide (T2.out.below hb)
  replace HB := hide (bl_trans HB.out hb)
  clear hb
  go_wp2_with fail
  refine (sameB m ys b1 e1 b2 e2 _ T1.out T2.out).mono ?_
  rintro e w3 ⟨rfl, hb⟩
  replace HB := hide (bl_trans HB.out hb)
  clear hb
  go_wp2
  go_ret
  exact ⟨rfl, HB.out⟩

set_option maxHeartbeats 2000000 in
theorem drawFloor (a : Option Addr) (len cap : Nat) (w : World) (hr : Row a len cap w) :
    Calls Try.prog 14 #[.slice a len cap] w fun e w' => ∃ n a1 c1 xs m b1 e1 ys, e = .returned (.agg #[.bool n, .slice a1 xs.length c1, .bool m, .slice b1 ys.length e1]) ∧ Seg w' a1 xs.length c1 xs ∧ Seg w' b1 ys.length e1 ys ∧ Below w.heap.size w w' := by
  have kr0 : (w.alloc (Obj.cells #[Value.bool false, Value.slice none 0 0, Value.bool false, Value.slice none 0 0] 28)).cell? ⟨w.heap.size, 0, none⟩ = some (Value.bool false) := by go_simp
  have fr0 : (w.alloc (Obj.cells #[Value.bool false, Value.slice none 0 0, Value.bool false, Value.slice none 0 0] 28)).frozen? ⟨w.heap.size, 0, none⟩ = false := by go_simp
  have kr1 : (w.alloc (Obj.cells #[Value.bool false, Value.slice none 0 0, Value.bool false, Value.slice none 0 0] 28)).cell? ⟨w.heap.size, 1, none⟩ = some (Value.slice none 0 0) := by go_simp
  have fr1 : (w.alloc (Obj.cells #[Value.bool false, Value.slice none 0 0, Value.bool false, Value.slice none 0 0] 28)).frozen? ⟨w.heap.size, 1, none⟩ = false := by go_simp
  have kr2 : (w.alloc (Obj.cells #[Value.bool false, Value.slice none 0 0, Value.bool false, Value.slice none 0 0] 28)).cell? ⟨w.heap.size, 2, none⟩ = some (Value.bool false) := by go_simp
  have fr2 : (w.alloc (Obj.cells #[Value.bool false, Value.slice none 0 0, Value.bool false, Value.slice none 0 0] 28)).frozen? ⟨w.heap.size, 2, none⟩ = false := by go_simp
  have kr3 : (w.alloc (Obj.cells #[Value.bool false, Value.slice none 0 0, Value.bool false, Value.slice none 0 0] 28)).cell? ⟨w.heap.size, 3, none⟩ = some (Value.slice none 0 0) := by go_simp
  have fr3 : (w.alloc (Obj.cells #[Value.bool false, Value.slice none 0 0, Value.bool false, Value.slice none 0 0] 28)).frozen? ⟨w.heap.size, 3, none⟩ = false := by go_simp
  have zr : w.heap.size < (w.alloc (Obj.cells #[Value.bool false, Value.slice none 0 0, Value.bool false, Value.slice none 0 0] 28)).heap.size := by simp only [World.size_alloc]; omega
  have HB := hide (bl_alloc (bl_refl w) (Obj.cells #[Value.bool false, Value.slice none 0 0, Value.bool false, Value.slice none 0 0] 28))
  have HR := hide (hr.bel HB.out)
  clear hr
  go_enter Try.func14, Try.ntmps14
  go_upto_region 1 with fail
  generalize (w.alloc (Obj.cells #[Value.bool false, Value.slice none 0 0, Value.bool false, Value.slice none 0 0] 28)) = wa at *
  go_wp2_with fail
  refine (newD a len cap _ HR.out).mono ?_
  rintro e w2 ⟨rfl, hc2, hb2⟩
  replace kr0 := (hb2.cell (p := ⟨w.heap.size, 0, none⟩) zr).trans kr0
  replace fr0 := (hb2.frozen (p := ⟨w.heap.size, 0, none⟩) zr).trans fr0
  replace kr1 := (hb2.cell (p := ⟨w.heap.size, 1, none⟩) zr).trans kr1
  replace fr1 := (hb2.frozen (p := ⟨w.heap.size, 1, none⟩) zr).trans fr1
  replace kr2 := (hb2.cell (p := ⟨w.heap.size, 2, none⟩) zr).trans kr2
  replace fr2 := (hb2.frozen (p := ⟨w.heap.size, 2, none⟩) zr).trans fr2
  replace kr3 := (hb2.cell (p := ⟨w.heap.size, 3, none⟩) zr).trans kr3
  replace fr3 := (hb2.frozen (p := ⟨w.heap.size, 3, none⟩) zr).trans fr3
  have z2 := Nat.lt_of_lt_of_le zr hb2.size
  replace HB := hide (bl_trans HB.out hb2)
  have HC := hide hc2
  clear hb2 hc2 HR
  go_wp2_with fail
  refine (anyR _ a len cap _ HC.out).mono ?_
  rintro e w3 ⟨n, a1, c1, xs, m, b1, e1, ys, rfl, ho1, ho2, hc3, ho3⟩
  replace kr0 := (ho3.cell (p := ⟨w.heap.size, 0, none⟩) z2 (by dsimp only; omega)).trans kr0
  replace fr0 := (ho3.frozen (p := ⟨w.heap.size, 0, none⟩) z2 (by dsimp only; omega)).trans fr0
  replace kr1 := (ho3.cell (p := ⟨w.heap.size, 1, none⟩) z2 (by dsimp only; omega)).trans kr1
  replace fr1 := (ho3.frozen (p := ⟨w.heap.size, 1, none⟩) z2 (by dsimp only; omega)).trans fr1
  replace kr2 := (ho3.cell (p := ⟨w.heap.size, 2, none⟩) z2 (by dsimp only; omega)).trans kr2
  replace fr2 := (ho3.frozen (p := ⟨w.heap.size, 2, none⟩) z2 (by dsimp only; omega)).trans fr2
  replace kr3 := (ho3.cell (p := ⟨w.heap.size, 3, none⟩) z2 (by dsimp only; omega)).trans kr3
  replace fr3 := (ho3.frozen (p := ⟨w.heap.size, 3, none⟩) z2 (by dsimp only; omega)).trans fr3
  replace HB := hide (HB.out.trans (ho3.below (by omega) (by omega)))
  have O1 := hide ho1
  have O2 := hide ho2
  clear hc3 ho3 ho1 ho2 HC
  go_wp2
  refine bodyPost_ret (v := (.agg #[.bool n, .slice a1 xs.length c1, .bool m, .slice b1 ys.length e1])) (by simp [results, Try.results14, go_sem, kr0, kr1, kr2, kr3]) rfl ?_
  exact ⟨n, a1, c1, xs, m, b1, e1, ys, rfl, (own_four (w := w) O1.out z2 (Nat.le_refl _) _ _ _ _).seg, (own_four (w := w) O2.out z2 (Nat.le_refl _) _ _ _ _).seg, set_four (Nat.le_refl _) HB.out _ _ _ _⟩

set_option maxHeartbeats 4000000 in
theorem drawRatQuo (a : Option Addr) (len cap : Nat) (w : World) (hr : Row a len cap w) :
    Calls Try.prog 6 #[.slice a len cap] w fun e w' => ∃ n1 a1 c1 xs1 m1 b1 e1 ys1 n2 a2 c2 xs2 m2 b2 e2 ys2, e = .returned (.tuple #[.agg #[.bool n1, .slice a1 xs1.length c1, .bool m1, .slice b1 ys1.length e1], .agg #[.bool n2, .slice a2 xs2.length c2, .bool m2, .slice b2 ys2.length e2]]) ∧ Seg w' a1 xs1.length c1 xs1 ∧ Seg w' b1 ys1.length e1 ys1 ∧ Seg w' a2 xs2.length c2 xs2 ∧ Seg w' b2 ys2.length e2 ys2 ∧ Below w.heap.size w w' := by
  have kr0 : ((w.alloc (Obj.cells #[Value.bool false, Value.slice none 0 0, Value.bool false, Value.slice none 0 0] 28)).alloc (Obj.cells #[Value.bool false, Value.slice none 0 0, Value.bool false, Value.slice none 0 0] 28)).cell? ⟨w.heap.size, 0, none⟩ = some (Value.bool false) := by go_simp
  have fr0 : ((w.alloc (Obj.cells #[Value.bool false, Value.slice none 0 0, Value.bool false, Value.slice none 0 0] 28)).alloc (Obj.cells #[Value.bool false, Value.slice none 0 0, Value.bool false, Value.slice none 0 0] 28)).frozen? ⟨w.heap.size, 0, none⟩ = false := by go_simp
  have kr1 : ((w.alloc (Obj.cells #[Value.bool false, Value.slice none 0 0, Value.bool false, Value.slice none 0 0] 28)).alloc (Obj.cells #[Value.bool false, Value.slice none 0 0, Value.bool false, Value.slice none 0 0] 28)).cell? ⟨w.heap.size, 1, none⟩ = some (Value.slice none 0 0) := by go_simp
  have fr1 : ((w.alloc (Obj.cells #[Value.bool false, Value.slice none 0 0, Value.bool false, Value.slice none 0 0] 28)).alloc (Obj.cells #[Value.bool false, Value.slice none 0 0, Value.bool false, Value.slice none 0 0] 28)).frozen? ⟨w.heap.size, 1, none⟩ = false := by go_simp
  have kr2 : ((w.alloc (Obj.cells #[Value.bool false, Value.slice none 0 0, Value.bool false, Value.slice none 0 0] 28)).alloc (Obj.cells #[Value.bool false, Value.slice none 0 0, Value.bool false, Value.slice none 0 0] 28)).cell? ⟨w.heap.size, 2, none⟩ = some (Value.bool false) := by go_simp
  have fr2 : ((w.alloc (Obj.cells #[Value.bool false, Value.slice none 0 0, Value.bool false, Value.slice none 0 0] 28)).alloc (Obj.cells #[Value.bool false, Value.slice none 0 0, Value.bool false, Value.slice none 0 0] 28)).frozen? ⟨w.heap.size, 2, none⟩ = false := by go_simp
  have kr3 : ((w.alloc (Obj.cells #[Value.bool false, Value.slice none 0 0, Value.bool false, Value.slice none 0 0] 28)).alloc (Obj.cells #[Value.bool false, Value.slice none 0 0, Value.bool false, Value.slice none 0 0] 28)).cell? ⟨w.heap.size, 3, none⟩ = some (Value.slice none 0 0) := by go_simp
  have fr3 : ((w.alloc (Obj.cells #[Value.bool false, Value.slice none 0 0, Value.bool false, Value.slice none 0 0] 28)).alloc (Obj.cells #[Value.bool false, Value.slice none 0 0, Value.bool false, Value.slice none 0 0] 28)).frozen? ⟨w.heap.size, 3, none⟩ = false := by go_simp
  have ks0 : ((w.alloc (Obj.cells #[Value.bool false, Value.slice none 0 0, Value.bool false, Value.slice none 0 0] 28)).alloc (Obj.cells #[Value.bool false, Value.slice none 0 0, Value.bool false, Value.slice none 0 0] 28)).cell? ⟨w.heap.size + 1, 0, none⟩ = some (Value.bool false) := by go_simp
  have fs0 : ((w.alloc (Obj.cells #[Value.bool false, Value.slice none 0 0, Value.bool false, Value.slice none 0 0] 28)).alloc (Obj.cells #[Value.bool false, Value.slice none 0 0, Value.bool false, Value.slice none 0 0] 28)).frozen? ⟨w.heap.size + 1, 0, none⟩ = false := by go_simp
  have ks1 : ((w.alloc (Obj.cells #[Value.bool false, Value.slice none 0 0, Value.bool false, Value.slice none 0 0] 28)).alloc (Obj.cells #[Value.bool false, Value.slice none 0 0, Value.bool false, Value.slice none 0 0] 28)).cell? ⟨w.heap.size + 1, 1, none⟩ = some (Value.slice none 0 0) := by go_simp
  have fs1 : ((w.alloc (Obj.cells #[Value.bool false, Value.slice none 0 0, Value.bool false, Value.slice none 0 0] 28)).alloc (Obj.cells #[Value.bool false, Value.slice none 0 0, Value.bool false, Value.slice none 0 0] 28)).frozen? ⟨w.heap.size + 1, 1, none⟩ = false := by go_simp
  have ks2 : ((w.alloc (Obj.cells #[Value.bool false, Value.slice none 0 0, Value.bool false, Value.slice none 0 0] 28)).alloc (Obj.cells #[Value.bool false, Value.slice none 0 0, Value.bool false, Value.slice none 0 0] 28)).cell? ⟨w.heap.size + 1, 2, none⟩ = some (Value.bool false) := by go_simp
  have fs2 : ((w.alloc (Obj.cells #[Value.bool false, Value.slice none 0 0, Value.bool false, Value.slice none 0 0] 28)).alloc (Obj.cells #[Value.bool false, Value.slice none 0 0, Value.bool false, Value.slice none 0 0] 28)).frozen? ⟨w.heap.size + 1, 2, none⟩ = false := by go_simp
  have ks3 : ((w.alloc (Obj.cells #[Value.bool false, Value.slice none 0 0, Value.bool false, Value.slice none 0 0] 28)).alloc (Obj.cells #[Value.bool false, Value.slice none 0 0, Value.bool false, Value.slice none 0 0] 28)).cell? ⟨w.heap.size + 1, 3, none⟩ = some (Value.slice none 0 0) := by go_simp
  have fs3 : ((w.alloc (Obj.cells #[Value.bool false, Value.slice none 0 0, Value.bool false, Value.slice none 0 0] 28)).alloc (Obj.cells #[Value.bool false, Value.slice none 0 0, Value.bool false, Value.slice none 0 0] 28)).frozen? ⟨w.heap.size + 1, 3, none⟩ = false := by go_simp
  have zr : w.heap.size < ((w.alloc (Obj.cells #[Value.bool false, Value.slice none 0 0, Value.bool false, Value.slice none 0 0] 28)).alloc (Obj.cells #[Value.bool false, Value.slice none 0 0, Value.bool false, Value.slice none 0 0] 28)).heap.size := by simp only [World.size_alloc]; omega
  have zs : w.heap.size + 1 < ((w.alloc (Obj.cells #[Value.bool false, Value.slice none 0 0, Value.bool false, Value.slice none 0 0] 28)).alloc (Obj.cells #[Value.bool false, Value.slice none 0 0, Value.bool false, Value.slice none 0 0] 28)).heap.size := by simp only [World.size_alloc]; omega
  have HB := hide (bl_alloc (bl_alloc (bl_refl w) (Obj.cells #[Value.bool false, Value.slice none 0 0, Value.bool false, Value.slice none 0 0] 28)) (Obj.cells #[Value.bool false, Value.slice none 0 0, Value.bool false, Value.slice none 0 0] 28))
  have HR := hide (hr.bel HB.out)
  clear hr
  go_enter Try.func6, Try.ntmps6
  go_upto_region 1 with fail
  generalize ((w.alloc (Obj.cells #[Value.bool false, Value.slice none 0 0, Value.bool false, Value.slice none 0 0] 28)).alloc (Obj.cells #[Value.bool false, Value.slice none 0 0, Value.bool false, Value.slice none 0 0] 28)) = wa at *
  go_wp2_with fail
  refine (newD a len cap _ HR.out).mono ?_
  rintro e w2 ⟨rfl, hc2, hb2⟩
  replace kr0 := (hb2.cell (p := ⟨w.heap.size, 0, none⟩) zr).trans kr0
  replace fr0 := (hb2.frozen (p := ⟨w.heap.size, 0, none⟩) zr).trans fr0
  replace kr1 := (hb2.cell (p := ⟨w.heap.size, 1, none⟩) zr).trans kr1
  replace fr1 := (hb2.frozen (p := ⟨w.heap.size, 1, none⟩) zr).trans fr1
  replace kr2 := (hb2.cell (p := ⟨w.heap.size, 2, none⟩) zr).trans kr2
  replace fr2 := (hb2.frozen (p := ⟨w.heap.size, 2, none⟩) zr).trans fr2
  replace kr3 := (hb2.cell (p := ⟨w.heap.size, 3, none⟩) zr).trans kr3
  replace fr3 := (hb2.frozen (p := ⟨w.heap.size, 3, none⟩) zr).trans fr3
  replace ks0 := (hb2.cell (p := ⟨w.heap.size + 1, 0, none⟩) zs).trans ks0
  replace fs0 := (hb2.frozen (p := ⟨w.heap.size + 1, 0, none⟩) zs).trans fs0
  replace ks1 := (hb2.cell (p := ⟨w.heap.size + 1, 1, none⟩) zs).trans ks1
  replace fs1 := (hb2.frozen (p := ⟨w.heap.size + 1, 1, none⟩) zs).trans fs1
  replace ks2 := (hb2.cell (p := ⟨w.heap.size + 1, 2, none⟩) zs).trans ks2
  replace fs2 := (hb2.frozen (p := ⟨w.heap.size + 1, 2, none⟩) zs).trans fs2
  replace ks3 := (hb2.cell (p := ⟨w.heap.size + 1, 3, none⟩) zs).trans ks3
  replace fs3 := (hb2.frozen (p := ⟨w.heap.size + 1, 3, none⟩) zs).trans fs3
  have z2 := Nat.lt_of_lt_of_le zs hb2.size
  have z2r : w.heap.size < w2.heap.size := by omega
  replace HB := hide (bl_trans HB.out hb2)
  have HC := hide hc2
  have hBs := hc2.hB
  clear hb2 hc2 HR
  generalize wa.heap.size = B at *
  go_wp2_with fail
  refine (anyR B a len cap _ HC.out).mono ?_
  rintro e w3 ⟨n1, a1, c1, xs1, m1, b1, e1, ys1, rfl, ho1, ho2, hc3, ho3⟩
  replace kr0 := (ho3.cell (p := ⟨w.heap.size, 0, none⟩) z2r (by dsimp only; omega)).trans kr0
  replace fr0 := (ho3.frozen (p := ⟨w.heap.size, 0, none⟩) z2r (by dsimp only; omega)).trans fr0
  replace kr1 := (ho3.cell (p := ⟨w.heap.size, 1, none⟩) z2r (by dsimp only; omega)).trans kr1
  replace fr1 := (ho3.frozen (p := ⟨w.heap.size, 1, none⟩) z2r (by dsimp only; omega)).trans fr1
  replace kr2 := (ho3.cell (p := ⟨w.heap.size, 2, none⟩) z2r (by dsimp only; omega)).trans kr2
  replace fr2 := (ho3.frozen (p := ⟨w.heap.size, 2, none⟩) z2r (by dsimp only; omega)).trans fr2
  replace kr3 := (ho3.cell (p := ⟨w.heap.size, 3, none⟩) z2r (by dsimp only; omega)).trans kr3
  replace fr3 := (ho3.frozen (p := ⟨w.heap.size, 3, none⟩) z2r (by dsimp only; omega)).trans fr3
  replace ks0 := (ho3.cell (p := ⟨w.heap.size + 1, 0, none⟩) z2 (by dsimp only; omega)).trans ks0
  replace fs0 := (ho3.frozen (p := ⟨w.heap.size + 1, 0, none⟩) z2 (by dsimp only; omega)).trans fs0
  replace ks1 := (ho3.cell (p := ⟨w.heap.size + 1, 1, none⟩) z2 (by dsimp only; omega)).trans ks1
  replace fs1 := (ho3.frozen (p := ⟨w.heap.size + 1, 1, none⟩) z2 (by dsimp only; omega)).trans fs1
  replace ks2 := (ho3.cell (p := ⟨w.heap.size + 1, 2, none⟩) z2 (by dsimp only; omega)).trans ks2
  replace fs2 := (ho3.frozen (p := ⟨w.heap.size + 1, 2, none⟩) z2 (by dsimp only; omega)).trans fs2
  replace ks3 := (ho3.cell (p := ⟨w.heap.size + 1, 3, none⟩) z2 (by dsimp only; omega)).trans ks3
  replace fs3 := (ho3.frozen (p := ⟨w.heap.size + 1, 3, none⟩) z2 (by dsimp only; omega)).trans fs3
  replace HB := hide (HB.out.trans (ho3.below (by omega) (by omega)))
  have z3 := Nat.lt_of_lt_of_le z2 ho3.size
  have y3 := ho3.size
  have hbx := bl_alloc (bl_refl w3) (Obj.cells #[Value.bool n1, Value.slice a1 xs1.length c1, Value.bool m1, Value.slice b1 ys1.length e1] 28)
  have O1 := hide (ho1.below hbx)
  have O2 := hide (ho2.below hbx)
  have z3r : w.heap.size < w3.heap.size := by omega
  replace kr0 := (hbx.cell (p := ⟨w.heap.size, 0, none⟩) z3r).trans kr0
  replace fr0 := (hbx.frozen (p := ⟨w.heap.size, 0, none⟩) z3r).trans fr0
  replace kr1 := (hbx.cell (p := ⟨w.heap.size, 1, none⟩) z3r).trans kr1
  replace fr1 := (hbx.frozen (p := ⟨w.heap.size, 1, none⟩) z3r).trans fr1
  replace kr2 := (hbx.cell (p := ⟨w.heap.size, 2, none⟩) z3r).trans kr2
  replace fr2 := (hbx.frozen (p := ⟨w.heap.size, 2, none⟩) z3r).trans fr2
  replace kr3 := (hbx.cell (p := ⟨w.heap.size, 3, none⟩) z3r).trans kr3
  replace fr3 := (hbx.frozen (p := ⟨w.heap.size, 3, none⟩) z3r).trans fr3
  replace ks0 := (hbx.cell (p := ⟨w.heap.size + 1, 0, none⟩) z3).trans ks0
  replace fs0 := (hbx.frozen (p := ⟨w.heap.size + 1, 0, none⟩) z3).trans fs0
  replace ks1 := (hbx.cell (p := ⟨w.heap.size + 1, 1, none⟩) z3).trans ks1
  replace fs1 := (hbx.frozen (p := ⟨w.heap.size + 1, 1, none⟩) z3).trans fs1
  replace ks2 := (hbx.cell (p := ⟨w.heap.size + 1, 2, none⟩) z3).trans ks2
  replace fs2 := (hbx.frozen (p := ⟨w.heap.size + 1, 2, none⟩) z3).trans fs2
  replace ks3 := (hbx.cell (p := ⟨w.heap.size + 1, 3, none⟩) z3).trans ks3
  replace fs3 := (hbx.frozen (p := ⟨w.heap.size + 1, 3, none⟩) z3).trans fs3
  have kA0 : (w3.alloc (Obj.cells #[Value.bool n1, Value.slice a1 xs1.length c1, Value.bool m1, Value.slice b1 ys1.length e1] 28)).cell? ⟨w3.heap.size, 0, none⟩ = some (Value.bool n1) := by go_simp
  have kA1 : (w3.alloc (Obj.cells #[Value.bool n1, Value.slice a1 xs1.length c1, Value.bool m1, Value.slice b1 ys1.length e1] 28)).cell? ⟨w3.heap.size, 1, none⟩ = some (Value.slice a1 xs1.length c1) := by go_simp
  have kA2 : (w3.alloc (Obj.cells #[Value.bool n1, Value.slice a1 xs1.length c1, Value.bool m1, Value.slice b1 ys1.length e1] 28)).cell? ⟨w3.heap.size, 2, none⟩ = some (Value.bool m1) := by go_simp
  have kA3 : (w3.alloc (Obj.cells #[Value.bool n1, Value.slice a1 xs1.length c1, Value.bool m1, Value.slice b1 ys1.length e1] 28)).cell? ⟨w3.heap.size, 3, none⟩ = some (Value.slice b1 ys1.length e1) := by go_simp
  have zA : w3.heap.size < (w3.alloc (Obj.cells #[Value.bool n1, Value.slice a1 xs1.length c1, Value.bool m1, Value.slice b1 ys1.length e1] 28)).heap.size := by simp only [World.size_alloc]; omega
  replace HB := hide (bl_trans HB.out hbx)
  replace HC := hide (hc3.alloc (Obj.cells #[Value.bool n1, Value.slice a1 xs1.length c1, Value.bool m1, Value.slice b1 ys1.length e1] 28))
  clear hbx ho1 ho2 hc3 ho3
  go_upto_region 3 with fail
  generalize (w3.alloc (Obj.cells #[Value.bool n1, Value.slice a1 xs1.length c1, Value.bool m1, Value.slice b1 ys1.length e1] 28)) = w4 at *
  generalize hAA : w3.heap.size = A at *
  have hz4 : w.heap.size + 1 < w4.heap.size := by omega
  have hz4r : w.heap.size < w4.heap.size := by omega
  have KP : Hid (∀ w', Only B w4 w' → (w'.cell? ⟨A, 0, none⟩ = some (Value.bool n1) ∧ w'.cell? ⟨A, 1, none⟩ = some (Value.slice a1 xs1.length c1) ∧ w'.cell? ⟨A, 2, none⟩ = some (Value.bool m1) ∧ w'.cell? ⟨A, 3, none⟩ = some (Value.slice b1 ys1.length e1))) := hide (fun w' ho  => ⟨((ho.cell (p := ⟨A, 0, none⟩) zA (by dsimp only; omega)).trans kA0), ((ho.cell (p := ⟨A, 1, none⟩) zA (by dsimp only; omega)).trans kA1), ((ho.cell (p := ⟨A, 2, none⟩) zA (by dsimp only; omega)).trans kA2), ((ho.cell (p := ⟨A, 3, none⟩) zA (by dsimp only; omega)).trans kA3)⟩)
  have KPa : Hid (∀ w', Only B w4 w' → ∀ q0 q1 q2 q3, (((((w'.setCell ⟨w.heap.size, 0, none⟩ q0).setCell ⟨w.heap.size, 1, none⟩ q1).setCell ⟨w.heap.size, 2, none⟩ q2).setCell ⟨w.heap.size, 3, none⟩ q3).cell? ⟨A, 0, none⟩ = some (Value.bool n1) ∧ ((((w'.setCell ⟨w.heap.size, 0, none⟩ q0).setCell ⟨w.heap.size, 1, none⟩ q1).setCell ⟨w.heap.size, 2, none⟩ q2).setCell ⟨w.heap.size, 3, none⟩ q3).cell? ⟨A, 1, none⟩ = some (Value.slice a1 xs1.length c1) ∧ ((((w'.setCell ⟨w.heap.size, 0, none⟩ q0).setCell ⟨w.heap.size, 1, none⟩ q1).setCell ⟨w.heap.size, 2, none⟩ q2).setCell ⟨w.heap.size, 3, none⟩ q3).cell? ⟨A, 2, none⟩ = some (Value.bool m1) ∧ ((((w'.setCell ⟨w.heap.size, 0, none⟩ q0).setCell ⟨w.heap.size, 1, none⟩ q1).setCell ⟨w.heap.size, 2, none⟩ q2).setCell ⟨w.heap.size, 3, none⟩ q3).cell? ⟨A, 3, none⟩ = some (Value.slice b1 ys1.length e1))) := hide (fun w' ho q0 q1 q2 q3 => ⟨(cell_four (p := ⟨A, 0, none⟩) (by dsimp only; omega)).trans (((ho.cell (p := ⟨A, 0, none⟩) zA (by dsimp only; omega)).trans kA0)), (cell_four (p := ⟨A, 1, none⟩) (by dsimp only; omega)).trans (((ho.cell (p := ⟨A, 1, none⟩) zA (by dsimp only; omega)).trans kA1)), (cell_four (p := ⟨A, 2, none⟩) (by dsimp only; omega)).trans (((ho.cell (p := ⟨A, 2, none⟩) zA (by dsimp only; omega)).trans kA2)), (cell_four (p := ⟨A, 3, none⟩) (by dsimp only; omega)).trans (((ho.cell (p := ⟨A, 3, none⟩) zA (by dsimp only; omega)).trans kA3))⟩)
  have KPb : Hid (∀ w', Only B w4 w' → ∀ q0 q1 q2 q3 u0 u1 u2 u3, (((((((((w'.setCell ⟨w.heap.size, 0, none⟩ q0).setCell ⟨w.heap.size, 1, none⟩ q1).setCell ⟨w.heap.size, 2, none⟩ q2).setCell ⟨w.heap.size, 3, none⟩ q3).setCell ⟨w.heap.size + 1, 0, none⟩ u0).setCell ⟨w.heap.size + 1, 1, none⟩ u1).setCell ⟨w.heap.size + 1, 2, none⟩ u2).setCell ⟨w.heap.size + 1, 3, none⟩ u3).cell? ⟨A, 0, none⟩ = some (Value.bool n1) ∧ ((((((((w'.setCell ⟨w.heap.size, 0, none⟩ q0).setCell ⟨w.heap.size, 1, none⟩ q1).setCell ⟨w.heap.size, 2, none⟩ q2).setCell ⟨w.heap.size, 3, none⟩ q3).setCell ⟨w.heap.size + 1, 0, none⟩ u0).setCell ⟨w.heap.size + 1, 1, none⟩ u1).setCell ⟨w.heap.size + 1, 2, none⟩ u2).setCell ⟨w.heap.size + 1, 3, none⟩ u3).cell? ⟨A, 1, none⟩ = some (Value.slice a1 xs1.length c1) ∧ ((((((((w'.setCell ⟨w.heap.size, 0, none⟩ q0).setCell ⟨w.heap.size, 1, none⟩ q1).setCell ⟨w.heap.size, 2, none⟩ q2).setCell ⟨w.heap.size, 3, none⟩ q3).setCell ⟨w.heap.size + 1, 0, none⟩ u0).setCell ⟨w.heap.size + 1, 1, none⟩ u1).setCell ⟨w.heap.size + 1, 2, none⟩ u2).setCell ⟨w.heap.size + 1, 3, none⟩ u3).cell? ⟨A, 2, none⟩ = some (Value.bool m1) ∧ ((((((((w'.setCell ⟨w.heap.size, 0, none⟩ q0).setCell ⟨w.heap.size, 1, none⟩ q1).setCell ⟨w.heap.size, 2, none⟩ q2).setCell ⟨w.heap.size, 3, none⟩ q3).setCell ⟨w.heap.size + 1, 0, none⟩ u0).setCell ⟨w.heap.size + 1, 1, none⟩ u1).setCell ⟨w.heap.size + 1, 2, none⟩ u2).setCell ⟨w.heap.size + 1, 3, none⟩ u3).cell? ⟨A, 3, none⟩ = some (Value.slice b1 ys1.length e1))) := hide (fun w' ho q0 q1 q2 q3 u0 u1 u2 u3 => ⟨(cell_four (p := ⟨A, 0, none⟩) (by dsimp only; omega)).trans ((cell_four (p := ⟨A, 0, none⟩) (by dsimp only; omega)).trans (((ho.cell (p := ⟨A, 0, none⟩) zA (by dsimp only; omega)).trans kA0))), (cell_four (p := ⟨A, 1, none⟩) (by dsimp only; omega)).trans ((cell_four (p := ⟨A, 1, none⟩) (by dsimp only; omega)).trans (((ho.cell (p := ⟨A, 1, none⟩) zA (by dsimp only; omega)).trans kA1))), (cell_four (p := ⟨A, 2, none⟩) (by dsimp only; omega)).trans ((cell_four (p := ⟨A, 2, none⟩) (by dsimp only; omega)).trans (((ho.cell (p := ⟨A, 2, none⟩) zA (by dsimp only; omega)).trans kA2))), (cell_four (p := ⟨A, 3, none⟩) (by dsimp only; omega)).trans ((cell_four (p := ⟨A, 3, none⟩) (by dsimp only; omega)).trans (((ho.cell (p := ⟨A, 3, none⟩) zA (by dsimp only; omega)).trans kA3)))⟩)
  go_region_held3 (fun w' => w'.cell? ⟨A, 0, none⟩ = some (Value.bool n1) ∧ w'.cell? ⟨A, 1, none⟩ = some (Value.slice a1 xs1.length c1) ∧ w'.cell? ⟨A, 2, none⟩ = some (Value.bool m1) ∧ w'.cell? ⟨A, 3, none⟩ = some (Value.slice b1 ys1.length e1))
    (first | with_reducible exact KP.out _ (Only.refl B w4).drew | with_reducible exact KPb.out _ ho5 _ _ _ _ _ _ _ _ | with_reducible exact KPa.out _ ho5 _ _ _ _ | with_reducible exact KP.out _ ho5)
    (first | (go_at_call 22; refine (anyR B a len cap _ HC.out.drew).mono ?_; rintro e w5 ⟨n2, a2, c2, xs2, m2, b2, e2, ys2, rfl, h51, h52, hc5, ho5r⟩; have ho5 : Only B w4 w5 := only_of_drew ho5r; have P3 := hide (h51.mono (base' := w4.heap.size) (Nat.le_of_eq (by first | rfl | (simp only [World.size_drew])))); have P4 := hide (h52.mono (base' := w4.heap.size) (Nat.le_of_eq (by first | rfl | (simp only [World.size_drew])))); have P1 := hide (O1.out.only ho5 (by omega)); have P2 := hide (O2.out.only ho5 (by omega)); have kr0 := (ho5.cell (p := ⟨w.heap.size, 0, none⟩) hz4r (by dsimp only; omega)).trans kr0; have fr0 := (ho5.frozen (p := ⟨w.heap.size, 0, none⟩) hz4r (by dsimp only; omega)).trans fr0; have kr1 := (ho5.cell (p := ⟨w.heap.size, 1, none⟩) hz4r (by dsimp only; omega)).trans kr1; have fr1 := (ho5.frozen (p := ⟨w.heap.size, 1, none⟩) hz4r (by dsimp only; omega)).trans fr1; have kr2 := (ho5.cell (p := ⟨w.heap.size, 2, none⟩) hz4r (by dsimp only; omega)).trans kr2; have fr2 := (ho5.frozen (p := ⟨w.heap.size, 2, none⟩) hz4r (by dsimp only; omega)).trans fr2; have kr3 := (ho5.cell (p := ⟨w.heap.size, 3, none⟩) hz4r (by dsimp only; omega)).trans kr3; have fr3 := (ho5.frozen (p := ⟨w.heap.size, 3, none⟩) hz4r (by dsimp only; omega)).trans fr3; have ks0 := (ho5.cell (p := ⟨w.heap.size + 1, 0, none⟩) hz4 (by dsimp only; omega)).trans ks0; have fs0 := (ho5.frozen (p := ⟨w.heap.size + 1, 0, none⟩) hz4 (by dsimp only; omega)).trans fs0; have ks1 := (ho5.cell (p := ⟨w.heap.size + 1, 1, none⟩) hz4 (by dsimp only; omega)).trans ks1; have fs1 := (ho5.frozen (p := ⟨w.heap.size + 1, 1, none⟩) hz4 (by dsimp only; omega)).trans fs1; have ks2 := (ho5.cell (p := ⟨w.heap.size + 1, 2, none⟩) hz4 (by dsimp only; omega)).trans ks2; have fs2 := (ho5.frozen (p := ⟨w.heap.size + 1, 2, none⟩) hz4 (by dsimp only; omega)).trans fs2; have ks3 := (ho5.cell (p := ⟨w.heap.size + 1, 3, none⟩) hz4 (by dsimp only; omega)).trans ks3; have fs3 := (ho5.frozen (p := ⟨w.heap.size + 1, 3, none⟩) hz4 (by dsimp only; omega)).trans fs3; clear h51 h52 hc5))
  replace HB := hide (HB.out.trans (ho5.below (by omega) (by omega)))
  clear KP KPa KPb ho5 ho5r HC O1 O2 hAA
  go_wp2
  refine bodyPost_ret (v := (.tuple #[.agg #[.bool n1, .slice a1 xs1.length c1, .bool m1, .slice b1 ys1.length e1], .agg #[.bool n2, .slice a2 xs2.length c2, .bool m2, .slice b2 ys2.length e2]])) (by simp [results, Try.results6, go_sem, kr0, kr1, kr2, kr3, ks0, ks1, ks2, ks3]) rfl ?_
  exact ⟨n1, a1, c1, xs1, m1, b1, e1, ys1, n2, a2, c2, xs2, m2, b2, e2, ys2, rfl, (own4 (own4 P1.out (by omega) _ _ _ _) (by omega) _ _ _ _).seg, (own4 (own4 P2.out (by omega) _ _ _ _) (by omega) _ _ _ _).seg, (own4 (own4 P3.out (by omega) _ _ _ _) (by omega) _ _ _ _).seg, (own4 (own4 P4.out (by omega) _ _ _ _) (by omega) _ _ _ _).seg, set_four (Nat.le_succ _) (set_four (Nat.le_refl _) HB.out _ _ _ _) _ _ _ _⟩
end Go.Proofs.Ytpjckilmbidbgaa
