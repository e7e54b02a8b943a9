/- My texts From, Fit, AddP, LawBase, Trim2, Times, TimesS, Short, ToInt, ShortI, DivN, in this order. -/
import Derived.Test.YtpjckilmbidbgaaPk01
import Derived.Test.YtpjckilmbidbgaaPk04
import Derived.Deep.RegionHeld3
import Derived.Deep.DeepCutAuto
/- The walks of the two FromInt: the number of an int, in new memory. -/
namespace Go.Proofs.Ytpjckilmbidbgaa
open Go.RowKit
set_option linter.unusedVariables false

theorem and32 (n : Int) (h0 : 0 ≤ n) (h1 : n < 18446744073709551616) : bits .and .u64 n 4294967295 = n % 4294967296 := by
  have h255 : (BitVec.ofInt 64 4294967295).toNat = 2 ^ 32 - 1 := by decide
  have key : (BitVec.ofInt 64 n &&& BitVec.ofInt 64 4294967295).toNat = (n % ((2 ^ 64 : Nat) : Int)).toNat % 2 ^ 32 := by
    rw [BitVec.toNat_and, BitVec.toNat_ofInt, h255, Nat.and_two_pow_sub_one_eq_mod]
  show IntKind.u64.wrap ((BitVec.ofInt 64 n &&& BitVec.ofInt 64 4294967295).toNat : Nat) = n % 4294967296
  rw [key, IntKind.wrap_u64]
  omega
theorem own_two (w : World) (p q : Nat) (hp : p < 4294967296) (hq : q < 4294967296) : Own (w.alloc (Obj.cells #[Value.int .u32 p, Value.int .u32 q] 51)) w.heap.size (some ⟨w.heap.size, 0, none⟩) 2 2 [p, q] := by
  refine ⟨?_, fun x hx => ?_⟩
  · have := World.ownsRow_lit (base := w.heap.size) (e := 51) (size := 1) w #[Value.int .u32 p, Value.int .u32 q] 2 (Nat.le_refl _) (by unfold maxLen; omega) rfl
    simpa [lim] using this
  · simp at hx; omega

set_option maxHeartbeats 1000000 in
set_option maxRecDepth 20000 in
theorem fromI (n : Int) (w : World) (h1 : -9223372036854775808 ≤ n) (h2 : n ≤ 9223372036854775807) :
    Calls Try.prog 62 #[.int .i64 n] w fun e w' => ∃ v, e = .returned v ∧ New w' w.heap.size v n ∧ Below w.heap.size w w' := by
  by_cases hn : n < 0
  · have e1 : IntKind.u64.wrap (-IntKind.u64.wrap n) % 4294967296 = ((n.natAbs % 4294967296 : Nat) : Int) := by rw [IntKind.wrap_u64, IntKind.wrap_u64]; omega
    have e2 : IntKind.u64.wrap (-IntKind.u64.wrap n) / 4294967296 % 4294967296 = ((n.natAbs / 4294967296 : Nat) : Int) := by rw [IntKind.wrap_u64, IntKind.wrap_u64]; omega
    have e3 : bits BinOp.and IntKind.u64 (-(n + 1) + 1) 4294967295 % 4294967296 = ((n.natAbs % 4294967296 : Nat) : Int) := by rw [and32 _ (by omega) (by omega)]; omega
    have e4 : (-(n + 1) + 1) / 4294967296 = ((n.natAbs / 4294967296 : Nat) : Int) := by omega
    have E1 := hide e1
    have E2 := hide e2
    have E3 := hide e3
    have E4 := hide e4
    clear e1 e2 e3 e4
    go_enter Try.func62, Try.ntmps62
    go_wp2_with fail
    rw [E1.out, E2.out]
    have HO := hide (own_two (w.alloc (Obj.cells #[Value.bool false, Value.slice none 0 0] 26)) (n.natAbs % 4294967296) (n.natAbs / 4294967296) (by omega) (by omega))
    rw [World.size_alloc] at HO
    have hval : mk true (Num.nat [n.natAbs % 4294967296, n.natAbs / 4294967296]) = n := by unfold mk Num.nat Num.nat Num.nat; simp; omega
    refine (bigOfI true _ _ _ [n.natAbs % 4294967296, n.natAbs / 4294967296] (w.heap.size + 1) _ HO.out (by simp)).mono ?_
    rintro e w1 ⟨v1, rfl, hn1, hb1⟩
    rw [hval] at hn1
    obtain ⟨k0, k1, f0, f1⟩ := box_keep (N := w.heap.size) (c0 := .bool false) (c1 := .slice none 0 0) hb1 (by simp only [World.size_alloc]; omega) (by go_simp) (by go_simp) (by go_simp) (by go_simp)
    have HF := hide (fun x y => fin_box (N := w.heap.size) (x := x) (y := y) hn1 (by first | omega | (simp only [World.size_alloc]; omega)) (Nat.le_refl _) (bl_trans (bl_alloc (bl_alloc (bl_refl w) _) _) hb1))
    obtain ⟨a1, c1, rfl, ho1⟩ := hn1
    clear hb1 ho1 HO
    go_wp2
    refine bodyPost_ret (v := .agg #[.bool (sgn n), .slice a1 (lms n).length c1]) (by simp [results, Try.results62, go_sem, *]) rfl ?_
    exact ⟨_, rfl, HF.out _ _⟩
  · have e1 : n % 4294967296 = ((n.natAbs % 4294967296 : Nat) : Int) := by omega
    have e2 : n / 4294967296 = ((n.natAbs / 4294967296 : Nat) : Int) := by omega
    have e3 : bits BinOp.and IntKind.u64 n 4294967295 % 4294967296 = ((n.natAbs % 4294967296 : Nat) : Int) := by rw [and32 _ (by omega) (by omega)]; omega
    have E1 := hide e1
    have E2 := hide e2
    have E3 := hide e3
    clear e1 e2 e3
    go_enter Try.func62, Try.ntmps62
    go_wp2_with fail
    rw [E1.out, E2.out]
    have HO := hide (own_two (w.alloc (Obj.cells #[Value.bool false, Value.slice none 0 0] 26)) (n.natAbs % 4294967296) (n.natAbs / 4294967296) (by omega) (by omega))
    rw [World.size_alloc] at HO
    have hval : mk false (Num.nat [n.natAbs % 4294967296, n.natAbs / 4294967296]) = n := by unfold mk Num.nat Num.nat Num.nat; simp; omega
    refine (bigOfI false _ _ _ [n.natAbs % 4294967296, n.natAbs / 4294967296] (w.heap.size + 1) _ HO.out (by simp)).mono ?_
    rintro e w1 ⟨v1, rfl, hn1, hb1⟩
    rw [hval] at hn1
    obtain ⟨k0, k1, f0, f1⟩ := box_keep (N := w.heap.size) (c0 := .bool false) (c1 := .slice none 0 0) hb1 (by simp only [World.size_alloc]; omega) (by go_simp) (by go_simp) (by go_simp) (by go_simp)
    have HF := hide (fun x y => fin_box (N := w.heap.size) (x := x) (y := y) hn1 (by first | omega | (simp only [World.size_alloc]; omega)) (Nat.le_refl _) (bl_trans (bl_alloc (bl_alloc (bl_refl w) _) _) hb1))
    obtain ⟨a1, c1, rfl, ho1⟩ := hn1
    clear hb1 ho1 HO
    go_wp2
    refine bodyPost_ret (v := .agg #[.bool (sgn n), .slice a1 (lms n).length c1]) (by simp [results, Try.results62, go_sem, *]) rfl ?_
    exact ⟨_, rfl, HF.out _ _⟩

set_option maxHeartbeats 1000000 in
set_option maxRecDepth 20000 in
theorem fromS (n : Int) (w : World) (h1 : -9223372036854775808 ≤ n) (h2 : n ≤ 9223372036854775807) :
    Calls Try.prog 18 #[.int .i64 n] w fun e w' => ∃ v, e = .returned v ∧ New w' w.heap.size v n ∧ Below w.heap.size w w' := by
  by_cases hn : n < 0
  · have e1 : IntKind.u64.wrap (-IntKind.u64.wrap n) % 4294967296 = ((n.natAbs % 4294967296 : Nat) : Int) := by rw [IntKind.wrap_u64, IntKind.wrap_u64]; omega
    have e2 : IntKind.u64.wrap (-IntKind.u64.wrap n) / 4294967296 % 4294967296 = ((n.natAbs / 4294967296 : Nat) : Int) := by rw [IntKind.wrap_u64, IntKind.wrap_u64]; omega
    have e3 : bits BinOp.and IntKind.u64 (-(n + 1) + 1) 4294967295 % 4294967296 = ((n.natAbs % 4294967296 : Nat) : Int) := by rw [and32 _ (by omega) (by omega)]; omega
    have e4 : (-(n + 1) + 1) / 4294967296 = ((n.natAbs / 4294967296 : Nat) : Int) := by omega
    have E1 := hide e1
    have E2 := hide e2
    have E3 := hide e3
    have E4 := hide e4
    clear e1 e2 e3 e4
    go_enter Try.func18, Try.ntmps18
    go_wp2_with fail
    rw [E3.out, E4.out]
    have HO := hide (own_two (w.alloc (Obj.cells #[Value.bool false, Value.slice none 0 0] 26)) (n.natAbs % 4294967296) (n.natAbs / 4294967296) (by omega) (by omega))
    rw [World.size_alloc] at HO
    have hval : mk true (Num.nat [n.natAbs % 4294967296, n.natAbs / 4294967296]) = n := by unfold mk Num.nat Num.nat Num.nat; simp; omega
    refine (makeS true _ _ _ [n.natAbs % 4294967296, n.natAbs / 4294967296] _ HO.out.seg (by omega)).mono ?_
    rintro e w1 ⟨v1, rfl, hn1, hb1⟩
    rw [hval] at hn1
    obtain ⟨k0, k1, f0, f1⟩ := box_keep (N := w.heap.size) (c0 := .bool false) (c1 := .slice none 0 0) hb1 (by simp only [World.size_alloc]; omega) (by go_simp) (by go_simp) (by go_simp) (by go_simp)
    have HF := hide (fun x y => fin_box (N := w.heap.size) (x := x) (y := y) hn1 (by first | omega | (simp only [World.size_alloc]; omega)) (Nat.le_refl _) (bl_trans (bl_alloc (bl_alloc (bl_refl w) _) _) hb1))
    obtain ⟨a1, c1, rfl, ho1⟩ := hn1
    clear hb1 ho1 HO
    go_wp2
    refine bodyPost_ret (v := .agg #[.bool (sgn n), .slice a1 (lms n).length c1]) (by simp [results, Try.results18, go_sem, *]) rfl ?_
    exact ⟨_, rfl, HF.out _ _⟩
  · have e1 : n % 4294967296 = ((n.natAbs % 4294967296 : Nat) : Int) := by omega
    have e2 : n / 4294967296 = ((n.natAbs / 4294967296 : Nat) : Int) := by omega
    have e3 : bits BinOp.and IntKind.u64 n 4294967295 % 4294967296 = ((n.natAbs % 4294967296 : Nat) : Int) := by rw [and32 _ (by omega) (by omega)]; omega
    have E1 := hide e1
    have E2 := hide e2
    have E3 := hide e3
    clear e1 e2 e3
    go_enter Try.func18, Try.ntmps18
    go_wp2_with fail
    rw [E3.out, E2.out]
    have HO := hide (own_two (w.alloc (Obj.cells #[Value.bool false, Value.slice none 0 0] 26)) (n.natAbs % 4294967296) (n.natAbs / 4294967296) (by omega) (by omega))
    rw [World.size_alloc] at HO
    have hval : mk false (Num.nat [n.natAbs % 4294967296, n.natAbs / 4294967296]) = n := by unfold mk Num.nat Num.nat Num.nat; simp; omega
    refine (makeS false _ _ _ [n.natAbs % 4294967296, n.natAbs / 4294967296] _ HO.out.seg (by omega)).mono ?_
    rintro e w1 ⟨v1, rfl, hn1, hb1⟩
    rw [hval] at hn1
    obtain ⟨k0, k1, f0, f1⟩ := box_keep (N := w.heap.size) (c0 := .bool false) (c1 := .slice none 0 0) hb1 (by simp only [World.size_alloc]; omega) (by go_simp) (by go_simp) (by go_simp) (by go_simp)
    have HF := hide (fun x y => fin_box (N := w.heap.size) (x := x) (y := y) hn1 (by first | omega | (simp only [World.size_alloc]; omega)) (Nat.le_refl _) (bl_trans (bl_alloc (bl_alloc (bl_refl w) _) _) hb1))
    obtain ⟨a1, c1, rfl, ho1⟩ := hn1
    clear hb1 ho1 HO
    go_wp2
    refine bodyPost_ret (v := .agg #[.bool (sgn n), .slice a1 (lms n).length c1]) (by simp [results, Try.results18, go_sem, *]) rfl ?_
    exact ⟨_, rfl, HF.out _ _⟩

end Go.Proofs.Ytpjckilmbidbgaa

/- The walks of bigDifference, and of what lets a right number by: ifRight, l02Fit. -/
namespace Go.Proofs.Ytpjckilmbidbgaa
open Go.RowKit
set_option linter.unusedVariables false

theorem mk_not (n : Bool) (y : Nat) : mk (!n) y = - mk n y := by cases n <;> simp [mk]

set_option maxHeartbeats 1000000 in
set_option maxRecDepth 20000 in
theorem diffI (v1 v2 : Value) (n1 n2 : Bool) (x y : Nat) (w : World) (h1 : Raw w v1 n1 (Num.limbs x)) (h2 : Raw w v2 n2 (Num.limbs y)) (l1 : (Num.limbs x).length ≤ 1048576) (l2 : (Num.limbs y).length ≤ 1048576) :
    Calls Try.prog 55 #[v1, v2] w fun e w' => ∃ v, e = .returned v ∧ New w' w.heap.size v (mk n1 x - mk n2 y) ∧ Below w.heap.size w w' := by
  obtain ⟨a, ca, rfl, ha⟩ := h1
  obtain ⟨b, cb, rfl, hb⟩ := h2
  have HZ := hide (bl_alloc (bl_alloc (bl_alloc (bl_refl w) (Obj.cells #[Value.bool n1, Value.slice a (Num.limbs x).length ca] 26)) (Obj.cells #[Value.bool !n2, Value.slice b (Num.limbs y).length cb] 26)) (Obj.cells #[Value.bool false, Value.slice none 0 0] 26))
  have HA := hide (ha.below HZ.out)
  have HBB := hide (hb.below HZ.out)
  clear ha hb
  have kR0 : (((w.alloc (Obj.cells #[Value.bool n1, Value.slice a (Num.limbs x).length ca] 26)).alloc (Obj.cells #[Value.bool !n2, Value.slice b (Num.limbs y).length cb] 26)).alloc (Obj.cells #[Value.bool false, Value.slice none 0 0] 26)).cell? ⟨w.heap.size + 1 + 1, 0, none⟩ = some (.bool false) := by go_simp
  have kR1 : (((w.alloc (Obj.cells #[Value.bool n1, Value.slice a (Num.limbs x).length ca] 26)).alloc (Obj.cells #[Value.bool !n2, Value.slice b (Num.limbs y).length cb] 26)).alloc (Obj.cells #[Value.bool false, Value.slice none 0 0] 26)).cell? ⟨w.heap.size + 1 + 1, 1, none⟩ = some (.slice none 0 0) := by go_simp
  have fR0 : (((w.alloc (Obj.cells #[Value.bool n1, Value.slice a (Num.limbs x).length ca] 26)).alloc (Obj.cells #[Value.bool !n2, Value.slice b (Num.limbs y).length cb] 26)).alloc (Obj.cells #[Value.bool false, Value.slice none 0 0] 26)).frozen? ⟨w.heap.size + 1 + 1, 0, none⟩ = false := by go_simp
  have fR1 : (((w.alloc (Obj.cells #[Value.bool n1, Value.slice a (Num.limbs x).length ca] 26)).alloc (Obj.cells #[Value.bool !n2, Value.slice b (Num.limbs y).length cb] 26)).alloc (Obj.cells #[Value.bool false, Value.slice none 0 0] 26)).frozen? ⟨w.heap.size + 1 + 1, 1, none⟩ = false := by go_simp
  have zR : w.heap.size + 1 + 1 < (((w.alloc (Obj.cells #[Value.bool n1, Value.slice a (Num.limbs x).length ca] 26)).alloc (Obj.cells #[Value.bool !n2, Value.slice b (Num.limbs y).length cb] 26)).alloc (Obj.cells #[Value.bool false, Value.slice none 0 0] 26)).heap.size := by simp only [World.size_alloc]; omega
  have HE : Hid (mk n1 x + mk (!n2) y = mk n1 x - mk n2 y) := hide (by rw [mk_not]; omega)
  go_enter Try.func55, Try.ntmps55
  go_wp2_with fail
  generalize (((w.alloc (Obj.cells #[Value.bool n1, Value.slice a (Num.limbs x).length ca] 26)).alloc (Obj.cells #[Value.bool !n2, Value.slice b (Num.limbs y).length cb] 26)).alloc (Obj.cells #[Value.bool false, Value.slice none 0 0] 26)) = w1 at *
  refine (sumI _ _ n1 (!n2) x y _ ⟨a, ca, rfl, HA.out⟩ ⟨b, cb, rfl, HBB.out⟩ l1 l2).mono ?_
  rintro e w2 ⟨v2, rfl, hn2, hb2⟩
  rw [HE.out] at hn2
  obtain ⟨k0, k1, f0, f1⟩ := box_keep (N := w.heap.size + 1 + 1) hb2 zR kR0 kR1 fR0 fR1
  have HF := hide (fun x y => fin_box (N := w.heap.size + 1 + 1) (x := x) (y := y) hn2 zR (by omega) (bl_trans HZ.out hb2))
  obtain ⟨a2, c2, rfl, ho2⟩ := hn2
  clear hb2 ho2 kR0 kR1 fR0 fR1 HA HBB HZ
  go_wp2
  refine bodyPost_ret (v := .agg #[.bool (sgn (mk n1 x - mk n2 y)), .slice a2 (lms (mk n1 x - mk n2 y)).length c2]) (by simp [results, Try.results55, go_sem, *]) rfl ?_
  exact ⟨_, rfl, HF.out _ _⟩

/-- a number of at most 40 limbs, or none -/
def fits (z : Int) : Bool := decide (z.natAbs < 4294967296 ^ 40)
def fitZ (z : Int) : Int := if fits z then z else 0
theorem zero_sgn : sgn 0 = false := rfl
theorem zero_lms : lms 0 = [] := Num.limbs_zero
theorem new_zero (W : World) (base : Nat) : New W base (.agg #[.bool false, .slice none 0 0]) 0 := ⟨none, 0, by rw [zero_sgn, zero_lms]; rfl, by rw [zero_lms]; exact Own.nil _ _⟩
theorem ret_fit {v : Value} {t u : Bool} (h : t = u) : Ending.returned (.tuple #[v, .bool t]) = .returned (.tuple #[v, .bool u]) := by rw [h]

end Go.Proofs.Ytpjckilmbidbgaa

/- The walks of the program's Add and Sub. -/
namespace Go.Proofs.Ytpjckilmbidbgaa
open Go.RowKit
set_option linter.unusedVariables false

/-- what is told by a function on two numbers: whether it is right, and the number -/
def opT (f : Int → Int → Int) (n1 : Bool) (xs : List Nat) (n2 : Bool) (ys : List Nat) : Bool := okB n1 xs && okB n2 ys && fits (f (mk n1 (Num.nat xs)) (mk n2 (Num.nat ys)))
def opZ (f : Int → Int → Int) (n1 : Bool) (xs : List Nat) (n2 : Bool) (ys : List Nat) : Int := if opT f n1 xs n2 ys then f (mk n1 (Num.nat xs)) (mk n2 (Num.nat ys)) else 0
def addZ (x y : Int) : Int := x + y
def subZ (x y : Int) : Int := x - y
theorem len40 {x : Int} (h : x.natAbs < 4294967296 ^ 40) : (Num.limbs x.natAbs).length ≤ 1048576 := Nat.le_trans (Num.limbs_len.2 h) (by decide)
theorem sumZ (v1 v2 : Value) (x y : Int) (w : World) (h1 : Is w v1 x) (h2 : Is w v2 y) (hx : x.natAbs < 4294967296 ^ 40) (hy : y.natAbs < 4294967296 ^ 40) :
    Calls Try.prog 51 #[v1, v2] w fun e w' => ∃ v, e = .returned v ∧ New w' w.heap.size v (addZ x y) ∧ Below w.heap.size w w' := by
  have := sumI v1 v2 (sgn x) (sgn y) x.natAbs y.natAbs w h1 h2 (len40 hx) (len40 hy)
  rw [mk_self, mk_self] at this
  exact this
theorem diffZ (v1 v2 : Value) (x y : Int) (w : World) (h1 : Is w v1 x) (h2 : Is w v2 y) (hx : x.natAbs < 4294967296 ^ 40) (hy : y.natAbs < 4294967296 ^ 40) :
    Calls Try.prog 55 #[v1, v2] w fun e w' => ∃ v, e = .returned v ∧ New w' w.heap.size v (subZ x y) ∧ Below w.heap.size w w' := by
  have := diffI v1 v2 (sgn x) (sgn y) x.natAbs y.natAbs w h1 h2 (len40 hx) (len40 hy)
  rw [mk_self, mk_self] at this
  exact this

end Go.Proofs.Ytpjckilmbidbgaa

/- What the walks of laws on two numbers share: what a call in a region that draws its order leaves behind. -/
namespace Go.Proofs.Ytpjckilmbidbgaa
open Go.RowKit
set_option linter.unusedVariables false

theorem Seg.le {W : World} {a : Option Addr} {n cap : Nat} {xs : List Nat} (h : Seg W a n cap xs) : n ≤ 9223372036854775807 := Nat.le_trans h.2.1 h.2.2.1
theorem keep4 {W0 w' : World} {N1 N2 : Nat} {c0 c1 c2 c3 : Value} (k0 : W0.cell? ⟨N1, 0, none⟩ = some c0) (k1 : W0.cell? ⟨N1, 1, none⟩ = some c1) (k2 : W0.cell? ⟨N2, 0, none⟩ = some c2) (k3 : W0.cell? ⟨N2, 1, none⟩ = some c3) (z1 : N1 < W0.heap.size) (z2 : N2 < W0.heap.size) (hb : Below W0.heap.size W0 w') :
    w'.cell? ⟨N1, 0, none⟩ = some c0 ∧ w'.cell? ⟨N1, 1, none⟩ = some c1 ∧ w'.cell? ⟨N2, 0, none⟩ = some c2 ∧ w'.cell? ⟨N2, 1, none⟩ = some c3 ∧ Hid (Below W0.heap.size W0 w') :=
  ⟨(hb.cell (p := ⟨N1, 0, none⟩) z1).trans k0, (hb.cell (p := ⟨N1, 1, none⟩) z1).trans k1, (hb.cell (p := ⟨N2, 0, none⟩) z2).trans k2, (hb.cell (p := ⟨N2, 1, none⟩) z2).trans k3, hb⟩
/-- a number in a box of its own, made behind the world W0 -/
def Res (W0 : World) (N : Nat) (a : Option Addr) (c : Nat) (z : Int) (wc : World) : Prop :=
  W0.heap.size ≤ N ∧ N < wc.heap.size ∧ wc.cell? ⟨N, 0, none⟩ = some (.bool (sgn z)) ∧ wc.cell? ⟨N, 1, none⟩ = some (.slice a (lms z).length c) ∧ Own wc W0.heap.size a (lms z).length c (lms z) ∧ Below W0.heap.size W0 wc
/-- the box was made ahead of the call -/
theorem res_ahead {W0 W1 wX : World} {N : Nat} {v : Value} {z : Int} {a : Option Addr} {c : Nat} (hv : v = .agg #[.bool (sgn z), .slice a (lms z).length c]) (ho : Own wX W1.heap.size a (lms z).length c (lms z)) (hN : W0.heap.size ≤ N) (hN1 : N < W1.heap.size) (h01 : Below W0.heap.size W0 wX) (h1 : W1.heap.size ≤ wX.heap.size)
    (k0 : ∃ u, wX.cell? ⟨N, 0, none⟩ = some u) (k1 : ∃ u, wX.cell? ⟨N, 1, none⟩ = some u) (w01 : W0.heap.size ≤ W1.heap.size) :
    Res W0 N a c z ((wX.setCell ⟨N, 0, none⟩ (.bool (sgn z))).setCell ⟨N, 1, none⟩ (.slice a (lms z).length c)) := by
  obtain ⟨u0, k0⟩ := k0
  obtain ⟨u1, k1⟩ := k1
  refine ⟨hN, by simp; omega, by go_simp, by go_simp, ?_, (h01.setCell (p := ⟨N, 0, none⟩) hN _).setCell (p := ⟨N, 1, none⟩) hN _⟩
  exact ((ho.setCell (p := ⟨N, 0, none⟩) hN1 _).setCell (p := ⟨N, 1, none⟩) hN1 _).mono w01
/-- the box was made behind it -/
theorem res_behind {W0 W1 wX : World} {z : Int} {a : Option Addr} {c : Nat} (ho : Own wX W1.heap.size a (lms z).length c (lms z)) (h01 : Below W0.heap.size W0 wX) (w01 : W0.heap.size ≤ W1.heap.size) :
    Res W0 wX.heap.size a c z (wX.alloc (.cells #[.bool (sgn z), .slice a (lms z).length c] 26)) :=
  ⟨h01.size, by simp only [World.size_alloc]; omega, by go_simp, by go_simp, (ho.below (bl_alloc (bl_refl wX) _)).mono w01, bl_alloc h01 _⟩
theorem opZ_len (f : Int → Int → Int) (n1 : Bool) (xs : List Nat) (n2 : Bool) (ys : List Nat) : (lms (opZ f n1 xs n2 ys)).length ≤ 40 := by
  unfold opZ
  by_cases h : opT f n1 xs n2 ys = true
  · rw [if_pos h]
    unfold opT at h
    simp only [Bool.and_eq_true] at h
    exact Num.limbs_len.2 (of_decide_eq_true h.2)
  · rw [if_neg h, zero_lms]; exact Nat.zero_le _
theorem Seg.grownLow {W0 W W' : World} {a : Option Addr} {n cap : Nat} {xs : List Nat} {r : Option Nat} (h : Seg W a n cap xs) (h0 : Seg W0 a n cap xs) (hg : W.grownBy W' r) (hr : ∀ k, r = some k → W0.heap.size ≤ k) : Seg W' a n cap xs := by
  obtain ⟨h1, h2, h3, h4, h5⟩ := h
  refine ⟨h1, h2, h3, h4, ?_⟩
  rcases h5 with h5 | ⟨g, o, ha, hgl, hc⟩
  · exact .inl h5
  · rcases h0.2.2.2.2 with h6 | ⟨g', o', ha', hg', _⟩
    · exact .inl h6
    · rw [ha] at ha'
      cases ha'
      exact .inr ⟨g, o, ha, Nat.lt_of_lt_of_le hgl hg.size, fun j hj => hg.cell (hc j hj) (fun e => by have := hr g e.symm; omega)⟩
end Go.Proofs.Ytpjckilmbidbgaa

/- The walks of trimLimbs and bigOf once more, with where their answers lie, and of slices.Clone over limbs. -/
namespace Go.Proofs.Ytpjckilmbidbgaa
open Go.RowKit
set_option linter.unusedVariables false

set_option maxHeartbeats 1000000 in
theorem trimI2 (a : Option Addr) (n cap : Nat) (xs : List Nat) (base : Nat) (w : World) (ho : Own w base a n cap xs) :
    Calls Try.prog 84 #[.slice a n cap] w fun e w' => w' = w ∧ ∃ a' c', e = .returned (.slice a' (Num.limbs (Num.nat xs)).length c') ∧ (∀ W, Own W base a n cap xs → Own W base a' (Num.limbs (Num.nat xs)).length c' (Num.limbs (Num.nat xs))) ∧ (a' = none ∨ a' = a) := by
  obtain rfl := ho.len
  have hs := ho.seg
  have hcap := hs.2.1
  have hcm := hs.2.2.1
  have hcell := hs.2.2.2.2
  have HO := hide ho
  have HC := hide hcell
  clear hs ho hcell
  go_enter Try.func84, Try.ntmps84
  go_wp2
  go_loopw [3] (fun i wr => ∃ k : Nat, k ≤ xs.length ∧ i = .int .i64 k ∧ wr = w ∧ Hid (Num.nat (xs.drop k) = 0)) (fun i _ => (intOf i).toNat)
  case atStart => exact ⟨xs.length, Nat.le_refl _, rfl, rfl, hide (by rw [List.drop_eq_nil_of_le (Nat.le_refl _)]; rfl)⟩
  case round =>
    obtain ⟨k, hk, rfl, rfl, hz⟩ := hrel
    by_cases h0 : k = 0
    · subst h0
      have HN : Hid (Num.limbs (Num.nat xs) = []) := hide (by have := hz.out; rw [List.drop_zero] at this; rw [this, Num.limbs_zero])
      go_wp2
      go_ret
      rw [HN.out]
      exact ⟨rfl, none, 0, rfl, fun W _ => Own.nil _ _, .inl rfl⟩
    · obtain ⟨j, rfl⟩ : ∃ j, k = j + 1 := ⟨k - 1, by omega⟩
      have hj : j < xs.length := by omega
      rcases HO.out.cases with ⟨rfl, h0, _, _⟩ | ⟨g, rfl, hg, hgl⟩
      · omega
      have hc := own_cell HO.out j hj
      by_cases hx : xs[j] = 0
      · have HZ : Hid (Num.nat (xs.drop j) = 0) := hide (by rw [Num.nat_drop xs j hj, hz.out, hx])
        rw [hx] at hc
        clear hz
        go_wp2
        exact ⟨⟨j, by omega, by go_num, trivial, HZ⟩, by simp [intOf]⟩
      · have hne : ((xs[j] : Int) != 0) = true := by rw [bne_iff_ne]; omega
        have ht := Num.limbs_of_trim HO.out.2 hk hz.out (fun i hi e => by cases e; exact hx)
        have HL : Hid ((Num.limbs (Num.nat xs)).length = j + 1) := hide (by rw [← ht, List.length_take]; omega)
        have HOX : Hid (∀ W, Own W base (some ⟨g, 0, none⟩) xs.length cap xs → Own W base (some ⟨g, 0, none⟩) (j + 1) cap (Num.limbs (Num.nat xs))) := hide (fun W h => by have := h.cut (j + 1) hk; rw [ht] at this; exact this)
        clear hz ht hx
        generalize xs[j] = x at *
        go_wp2
        go_ret
        rw [HL.out]
        exact ⟨rfl, _, _, rfl, HOX.out, .inr rfl⟩


set_option maxHeartbeats 2000000 in
set_option maxRecDepth 20000 in
theorem bigOfI2 (neg : Bool) (a : Option Addr) (n cap : Nat) (xs : List Nat) (base : Nat) (w : World) (ho : Own w base a n cap xs) :
    Calls Try.prog 61 #[.bool neg, .slice a n cap] w fun e w' => ∃ a' c', e = .returned (.agg #[.bool (sgn (mk neg (Num.nat xs))), .slice a' (lms (mk neg (Num.nat xs))).length c']) ∧ (∀ W, Own W base a n cap xs → Own W base a' (lms (mk neg (Num.nat xs))).length c' (lms (mk neg (Num.nat xs)))) ∧ (a' = none ∨ a' = a) ∧ Below w.heap.size w w' := by
  rw [mk_lms, mk_sgn]
  have HO := hide ho
  have hcm := ho.seg.2.2.1
  have hcap := ho.seg.2.1
  have hll := limbs_len_le ho.2
  rw [ho.len] at hll
  clear ho
  go_enter Try.func61, Try.ntmps61
  go_wp2_with fail
  refine (trimI2 a n cap xs base _ (HO.out.below (bl_alloc (bl_refl w) _))).mono ?_
  rintro e w1 ⟨hw, a', c', rfl, ho', ha'⟩
  subst w1
  have HO' := hide ho'
  have HA' := hide ha'
  have HP : Hid (decide (0 < Num.nat xs) = decide (0 < ((Num.limbs (Num.nat xs)).length : Int))) := hide (by
    by_cases h : Num.nat xs = 0
    · rw [h, Num.limbs_zero]; rfl
    · have : Num.limbs (Num.nat xs) ≠ [] := fun e => h (Num.limbs_eq_nil.1 e)
      have := List.length_pos_iff.2 this
      rw [decide_eq_true (by omega), decide_eq_true (by omega)])
  clear ho' ha'
  cases neg
  · go_wp2
    refine bodyPost_ret (v := .agg #[.bool false, .slice a' (Num.limbs (Num.nat xs)).length c']) (by simp [results, Try.results61, go_sem, *]) rfl ?_
    exact ⟨a', c', rfl, HO'.out, HA'.out, bl_alloc (bl_refl w) _⟩
  · go_wp2
    refine bodyPost_ret (v := .agg #[.bool (decide (0 < ((Num.limbs (Num.nat xs)).length : Int))), .slice a' (Num.limbs (Num.nat xs)).length c']) (by simp [results, Try.results61, go_sem, *]) rfl ?_
    refine ⟨a', c', ?_, HO'.out, HA'.out, bl_alloc (bl_refl w) _⟩
    rw [HP.out]; rfl

set_option maxHeartbeats 2000000 in
set_option maxRecDepth 20000 in
theorem cloneI (a : Option Addr) (n cap : Nat) (xs : List Nat) (w : World) (hs : Seg w a n cap xs) (hn : n ≤ 1048576) :
    Calls Try.prog 81 #[.slice a n cap] w fun e w' => ∃ a' c', e = .returned (.slice a' n c') ∧ Own w' w.heap.size a' n c' xs ∧ Below w.heap.size w w' := by
  obtain ⟨i0, hi, hz0, hz1, hz2⟩ := info_parts Try.info51
  obtain rfl := hs.1
  have hcap := hs.2.1
  have hcm := hs.2.2.1
  cases a with
  | none =>
    have h0 : xs = [] := by
      rcases hs.2.2.2.2 with h | ⟨g, o, h, _⟩
      · exact List.eq_nil_of_length_eq_zero h
      · cases h
    subst h0
    clear hs
    have q24 : ∀ (W : World) (n c n' c' : Nat), (binOp .eql 24 (.slice none n c) (.slice none n' c')).run Try.prog W = .ok (.bool true) W := fun W n c n' c' => Lib.run_eql_slice_nil W _ _ none n c n' c' Try.underlying24
    go_enter Try.func81, Try.ntmps81
    go_wp2
    go_ret
    exact ⟨none, 0, rfl, Own.nil _ _, bl_refl w⟩
  | some x =>
    have hnews : ∀ j u, ((xs.map lim)[j]? = some u) → (w.alloc (Obj.cells #[] 51)).cell? (x.add j) = some u := by
      intro j u hu
      have hj : j < xs.length := by have := (List.getElem?_eq_some_iff.1 hu).1; simpa using this
      have hu' : u = .int .u32 xs[j] := by
        have := (List.getElem?_eq_some_iff.1 hu).2
        simp [lim] at this; exact this.symm
      rcases hs.2.2.2.2 with h | ⟨g, o, h, hg, hc⟩
      · omega
      · cases h
        rw [hu', Addr.add_lit]
        exact ((bl_alloc (bl_refl w) _).cell (p := ⟨g, o + j, none⟩) hg).trans (hc j hj)
    have HNEWS := hide hnews
    have hrow0 : (w.alloc (Obj.cells #[] 51)).ownsRow w.heap.size 51 1 (.slice (some ⟨w.heap.size, 0, none⟩) 0 0) 0 [] := by
      have := World.ownsRow_lit (base := w.heap.size) (e := 51) (size := 1) w #[] 0 (by simp) (by unfold maxLen; omega) rfl
      simpa using this
    have HROW := hide hrow0
    have HS := hide hs.2.2.2.1
    clear hrow0 hnews hs
    have q24 : ∀ (W : World) (n c n' c' : Nat), (binOp .eql 24 (.slice (some x) n c) (.slice none n' c')).run Try.prog W = .ok (.bool false) W := fun W n c n' c' => Lib.run_eql_slice_nil W _ _ (some x) n c n' c' Try.underlying24
    go_enter Try.func81, Try.ntmps81
    go_wp2_with (at_builtin; refine wpList_append_own _ rfl _ _ 24 rfl w.heap.size 51 i0 (.int .u32 0) 1 4 Try.underlying24 hi hz0 hz1 hz2 rfl (by decide) _ 0 [] rfl HROW.out x xs.length cap (xs.map lim) rfl (by simp) HNEWS.out (one_lims _) (by unfold maxLen; omega) (by omega) (by simp) ?_; intro v' w1 hown' hgrow' _; have hgrow := (show (w.alloc (Obj.cells #[] 51)).grownBy w1 (some w.heap.size) from hgrow'); clear hgrow'; obtain ⟨a', c', rfl⟩ := row_val hown'; have HG := hide hgrow; have HO := hide hown'; clear hgrow hown')
    go_ret

    refine ⟨a', c', rfl, ⟨by have := HO.out; rw [Nat.zero_add, List.nil_append] at this; exact this, HS.out⟩, ?_⟩
    exact (bl_alloc (bl_refl w) _).grown HG.out (by simp only [World.size_alloc]; omega) (fun k e => by cases e; exact Nat.le_refl _)
end Go.Proofs.Ytpjckilmbidbgaa

/- The walk of addTimes: a part of a block of limbs turns into its sum with a list times a limb; no other block turns. -/
namespace Go.Proofs.Ytpjckilmbidbgaa
open Go.RowKit
set_option linter.unusedVariables false

/-- the number so far -/
def TSo (f : Nat) (seg ps zs : List Nat) (k c : Nat) : Prop :=
  zs.length = k ∧ Num.Small zs ∧ c < 4294967296 ∧ Num.nat zs + 4294967296 ^ k * c = Num.nat (seg.take k) + f * Num.nat (ps.take k)
theorem tso_step {f : Nat} {seg ps zs : List Nat} {k c l p t : Nat} (h : TSo f seg ps zs k c) (hl : seg.getD k 0 = l) (hp : ps.getD k 0 = p) (ht : t = f * p + l + c) (hb : t / 4294967296 < 4294967296) :
    TSo f seg ps (zs ++ [t % 4294967296]) (k + 1) (t / 4294967296) := by
  obtain ⟨h1, h2, h3, h4⟩ := h
  refine ⟨by simp [h1], Num.small_append h2 (by intro y hy; simp at hy; subst hy; exact Nat.mod_lt _ (by decide)), hb, ?_⟩
  rw [Num.nat_append, nat_take_getD seg k, nat_take_getD ps k, hl, hp, h1, Nat.pow_succ]
  have e0 : Num.nat [t % 4294967296] = t % 4294967296 := by simp [Num.nat]
  have e1 : 4294967296 ^ k * (t % 4294967296) + 4294967296 ^ k * 4294967296 * (t / 4294967296) = 4294967296 ^ k * t := by
    rw [Nat.mul_assoc, ← Nat.mul_add, Nat.mod_add_div]
  rw [e0, Nat.add_assoc, e1, ht, Nat.mul_add, Nat.mul_add, Nat.mul_add, ← Nat.mul_assoc f, Nat.mul_comm f (4294967296 ^ k), Nat.mul_assoc (4294967296 ^ k) f p]
  generalize 4294967296 ^ k * (f * p) = A at *
  generalize 4294967296 ^ k * l = B at *
  generalize 4294967296 ^ k * c = C at *
  generalize f * Num.nat (ps.take k) = D at *
  omega
theorem take_mid {Y zs : List Nat} {i m c : Nat} (hz : zs.length = m) (hi : i + m + 1 ≤ Y.length) : (Y.take i ++ (zs ++ [c]) ++ Y.drop (i + (m + 1))).length = Y.length := by
  simp; omega
theorem prod_step {xs bs Y zs : List Nat} {i c : Nat} (hi : i < xs.length) (hY : Y.length = xs.length + bs.length) (h0 : Num.nat (Y.drop (i + bs.length)) = 0) (hn : Num.nat Y = Num.nat (xs.take i) * Num.nat bs) (hT : TSo (xs[i]) (Y.drop i) bs zs bs.length c) :
    (Y.take i ++ (zs ++ [c]) ++ Y.drop (i + (bs.length + 1))).length = xs.length + bs.length ∧ Num.nat ((Y.take i ++ (zs ++ [c]) ++ Y.drop (i + (bs.length + 1))).drop (i + 1 + bs.length)) = 0 ∧
      Num.nat (Y.take i ++ (zs ++ [c]) ++ Y.drop (i + (bs.length + 1))) = Num.nat (xs.take (i + 1)) * Num.nat bs := by
  obtain ⟨h1, h2, h3, h4⟩ := hT
  have hlen := take_mid (c := c) (Y := Y) (i := i) h1 (by omega)
  have hd := Num.nat_drop Y (i + bs.length) (by omega)
  rw [h0] at hd
  have hd1 : Num.nat (Y.drop (i + bs.length + 1)) = 0 := by omega
  have hpre : (Y.take i ++ (zs ++ [c])).length = i + 1 + bs.length := by simp; omega
  have hdrop : (Y.take i ++ (zs ++ [c]) ++ Y.drop (i + (bs.length + 1))).drop (i + 1 + bs.length) = Y.drop (i + (bs.length + 1)) := by
    rw [List.drop_append_of_le_length (by omega), List.drop_eq_nil_of_le (by omega), List.nil_append]
  refine ⟨hlen.trans hY, ?_, ?_⟩
  · rw [hdrop]; exact hd1
  · have e1 : Num.nat (Y.take i ++ (zs ++ [c]) ++ Y.drop (i + (bs.length + 1))) = Num.nat (Y.take i ++ (zs ++ [c])) := by
      rw [Num.nat_append, show Num.nat (Y.drop (i + (bs.length + 1))) = 0 from hd1]; omega
    have e2 : Num.nat (Y.take i ++ (zs ++ [c])) = Num.nat (Y.take i) + 4294967296 ^ i * (Num.nat zs + 4294967296 ^ bs.length * c) := by
      rw [Num.nat_append, Num.nat_append, h1, List.length_take, Nat.min_eq_left (by omega), show Num.nat [c] = c from by simp [Num.nat]]
    have e3 : Num.nat Y = Num.nat (Y.take i) + 4294967296 ^ i * Num.nat ((Y.drop i).take bs.length) := by
      rw [Num.nat_take_drop Y i (by omega), Num.nat_take_drop (Y.drop i) bs.length (by simp; omega), List.drop_drop, h0]
      rfl
    rw [List.take_of_length_le (Nat.le_refl _)] at h4
    rw [e1, e2, h4, Nat.mul_add, ← Nat.add_assoc, ← e3, hn, Num.nat_take_succ xs i hi, Nat.add_mul, Nat.mul_assoc]
theorem drop_getD {ys : List Nat} {o k : Nat} (h : o + k < ys.length) : (ys.drop o).getD k 0 = ys[o + k] := by
  simp [List.getD, List.getElem?_drop, h]
theorem prod_le {a b : Nat} (ha : a < 4294967296) (hb : b < 4294967296) : a * b ≤ 18446744065119617025 := by
  have := Nat.mul_le_mul (show a ≤ 4294967295 by omega) (show b ≤ 4294967295 by omega)
  exact Nat.le_trans this (by decide)

set_option maxHeartbeats 4000000 in
set_option maxRecDepth 20000 in
theorem timesI (f g o n cap : Nat) (ys : List Nat) (b : Option Addr) (m cb : Nat) (ps : List Nat) (w : World) (hf : f < 4294967296) (hB : Blk w g ys) (ho : o + n ≤ ys.length) (hn : n ≤ cap) (hcm : cap ≤ 9223372036854775807) (hmn : m < n) (hP : Seg w b m cb ps) (hne : 0 < m → ∀ gb ob s, b = some ⟨gb, ob, s⟩ → gb ≠ g) :
    Calls Try.prog 75 #[.slice (some ⟨g, o, none⟩) n cap, .slice b m cb, .int .u32 f] w fun e w' => ∃ (zs : List Nat) (c : Nat), TSo f (ys.drop o) ps zs m c ∧ e = .returned (.tuple #[]) ∧ Blk w' g (ys.take o ++ (zs ++ [c]) ++ ys.drop (o + (m + 1))) ∧ w.grownBy w' (some g) := by
  obtain rfl := hP.1
  have hb1 := hP.2.1
  have hb2 := hP.2.2.1
  have HP := hide hP
  have HB := hide hB
  have HNE := hide hne
  clear hP hB hne
  go_enter Try.func75, Try.ntmps75
  go_wp2
  go_loopw [6, 7, 8, 11] (fun cv _ _ i wr => ∃ (k c : Nat) (zs : List Nat), k ≤ ps.length ∧ i = .int .i64 k ∧ cv = .int .u64 c ∧ c < 4294967296 ∧ Hid (TSo f (ys.drop o) ps zs k c) ∧ Hid (Blk wr g (ys.take o ++ zs ++ ys.drop (o + k))) ∧ Hid (w.grownBy wr (some g))) (fun _ _ _ i _ => ps.length - (intOf i).toNat)
  case atStart => exact ⟨0, 0, [], Nat.zero_le _, rfl, rfl, by omega, hide ⟨rfl, (fun x hx => by cases hx), by omega, by simp [Num.nat]⟩, hide (by have := HB.out; simpa using this), hide ⟨rfl, rfl, rfl, Nat.le_refl _, fun _ _ _ => rfl⟩⟩
  case round =>
    obtain ⟨k, c, zs, hk, rfl, rfl, hc, hS, hbk, hg⟩ := hrel
    have hzl := hS.out.1
    have hfz := hbk.out.frozen (o + k)
    have hls : ys[o + k]'(by omega) < 4294967296 := Num.small_at HB.out.2 (by omega)
    have hcl := hbk.out.cell (o + k) (by rw [mid_len hzl (by omega)]; omega)
    rw [mid_at hzl (by omega)] at hcl
    have HLD : Hid ((ys.drop o).getD k 0 = ys[o + k]'(by omega)) := hide (drop_getD (by omega))
    have HST := hide (fun x hx => hbk.out.set (o + k) x hx)
    have HMS := hide (fun x => mid_set (x := x) hzl (show o + k < ys.length by omega))
    generalize ys[o + k]'_ = l at *
    by_cases hlt : k < ps.length
    · have hlt' : (k : Int) < (ps.length : Int) := by omega
      have hkn : (k : Int) < (n : Int) := by omega
      obtain ⟨g', o', rfl, hg', hc2⟩ := seg_cell (HP.out.grown hg.out (fun gb ob s e => by have := HNE.out (by omega) gb ob s e; simp; omega)) k hlt
      have hps := Num.small_at HP.out.2.2.2.1 hlt
      have HPD : Hid (ps.getD k 0 = ps[k]) := hide (by simp [hlt])
      generalize ps[k] = p at *
      have hMb := prod_le hf hps
      have hM0 : (f : Int) * (p : Int) = ((f * p : Nat) : Int) := (Int.natCast_mul f p).symm
      have HTS := hide (fun hb => tso_step (t := f * p + l + c) hS.out HLD.out HPD.out rfl hb)
      clear hS
      generalize f * p = M at *
      go_wp2
      refine ⟨⟨k + 1, (M + l + c) / 4294967296, zs ++ [(M + l + c) % 4294967296], by omega, by go_num, by go_num, by omega, hide (HTS.out (by omega)), ?_⟩, by simp [intOf]; omega⟩
      have hs := HST.out ((M + l + c) % 4294967296) (by omega)
      rw [HMS.out] at hs
      have ev : ((c : Int) + ((M : Int) + (l : Int))) % 4294967296 = (((M + l + c) % 4294967296 : Nat) : Int) := by omega
      rw [ev]
      exact ⟨hide hs.1, hide (grown_trans hg.out hs.2)⟩
    · obtain rfl : k = ps.length := by omega
      have hkn : (ps.length : Int) < (n : Int) := by omega
      go_wp2
      go_end0
      have hs := HST.out c hc
      rw [HMS.out] at hs
      exact ⟨zs, c, hS.out, rfl, hs.1, grown_trans hg.out hs.2⟩
end Go.Proofs.Ytpjckilmbidbgaa

/- The walk of l02Times: the product of two lists of limbs, in new memory. -/
namespace Go.Proofs.Ytpjckilmbidbgaa
open Go.RowKit
set_option linter.unusedVariables false

theorem wrap_i {a : Int} (h0 : -9223372036854775808 ≤ a) (h1 : a ≤ 9223372036854775807) : IntKind.i64.wrap a = a := by rw [IntKind.wrap_i64]; omega
theorem wrap_u {a : Int} (h0 : 0 ≤ a) (h1 : a ≤ 18446744073709551615) : IntKind.u64.wrap a = a := by rw [IntKind.wrap_u64]; omega

set_option maxHeartbeats 8000000 in
set_option maxRecDepth 20000 in
theorem timesS (a b : Option Addr) (n m ca cb : Nat) (xs ys : List Nat) (w : World) (ha : Seg w a n ca xs) (hb : Seg w b m cb ys) (hn : n ≤ 500000) (hm : m ≤ 500000) :
    Calls Try.prog 71 #[.slice a n ca, .slice b m cb] w fun e w' => ∃ zs, e = .returned (.slice (some ⟨w.heap.size, 0, none⟩) (n + m) (n + m)) ∧ Own w' w.heap.size (some ⟨w.heap.size, 0, none⟩) (n + m) (n + m) zs ∧ Num.nat zs = Num.nat xs * Num.nat ys ∧ Below w.heap.size w w' := by
  obtain ⟨i0, hi, hz0, hz1, hz2⟩ := info_parts Try.info51
  obtain rfl := ha.1
  obtain rfl := hb.1
  have hca := ha.2.1
  have hcm := ha.2.2.1
  have hcb := hb.2.1
  have hcbm := hb.2.2.1
  have HA := hide ha
  have HBB := hide hb
  clear ha hb
  go_enter Try.func71, Try.ntmps71
  go_wp2_with (at_make; refine wpList_make_full _ rfl _ _ 24 rfl w.heap.size 51 i0 (.int .u32 0) 1 Try.underlying24 hi hz0 hz1 _ _ _ _ (xs.length + ys.length) rfl rfl (by push_cast; rfl) (by push_cast; rfl) (by rw [hz2]; omega) (by unfold maxLen; omega) (Nat.le_refl _) ?_; intro w3 hown hgrow; have HZ3 := hide ((bl_refl w).grown hgrow (Nat.le_refl _) (by simp)); have B3 := hide (own_made2 hown).blk; have q3 := B3.out.lt; clear hown hgrow)
  go_loopw [6, 7, 8, 9] (fun i _ _ _ wr => ∃ (k : Nat) (Y : List Nat), k ≤ xs.length ∧ i = .int .i64 k ∧ Y.length = xs.length + ys.length ∧ Hid (Blk wr w.heap.size Y) ∧ Hid (Num.nat (Y.drop (k + ys.length)) = 0) ∧ Hid (Num.nat Y = Num.nat (xs.take k) * Num.nat ys) ∧ Hid (Below w.heap.size w wr)) (fun i _ _ _ _ => xs.length - (intOf i).toNat)
  case atStart => exact ⟨0, List.replicate (xs.length + ys.length) 0, Nat.zero_le _, rfl, by simp, B3, hide (by rw [List.drop_replicate]; exact Num.nat_replicate _), hide (by rw [Num.nat_replicate]; simp [Num.nat]), HZ3⟩
  case round =>
    obtain ⟨k, Y, hk, rfl, hYl, hB, h0, hN, hZ⟩ := hrel
    by_cases hlt : k < xs.length
    · have hlt' : (k : Int) < (xs.length : Int) := by omega
      have hsm := Num.small_at HA.out.2.2.2.1 hlt
      have HPS := hide (fun zs c hT => prod_step (c := c) (zs := zs) hlt hYl h0.out hN.out hT)
      have HXK : Hid (∀ W, Below w.heap.size w W → ∃ g o, a = some ⟨g, o, none⟩ ∧ W.cell? ⟨g, o + k, none⟩ = some (.int .u32 xs[k])) := hide (fun W hW => by
        obtain ⟨g, o, ha, _, hc⟩ := seg_cell (HA.out.below hW) k hlt
        exact ⟨g, o, ha, hc⟩)
      generalize xs[k] = f at *
      clear h0 hN
      go_wp2_with fail
      go_loopw [7, 8, 9] (fun cv jv _ wi => ∃ (j c : Nat) (zs : List Nat), j ≤ ys.length ∧ jv = .int .i64 j ∧ cv = .int .u64 c ∧ c < 4294967296 ∧ Hid (TSo f (Y.drop k) ys zs j c) ∧ Hid (Blk wi w.heap.size (Y.take k ++ zs ++ Y.drop (k + j))) ∧ Hid (Below w.heap.size w wi)) (fun _ jv _ _ => ys.length - (intOf jv).toNat)
      case atStart => exact ⟨0, 0, [], Nat.zero_le _, rfl, rfl, by omega, hide ⟨rfl, (fun x hx => by cases hx), by omega, by simp [Num.nat]⟩, hide (by have := hB.out; simpa using this), hZ⟩
      case round =>
        obtain ⟨j, c, zs, hj, rfl, rfl, hc, hS, hbk, hZi⟩ := hrel
        have hzl := hS.out.1
        have hfz := hbk.out.frozen (k + j)
        have hls : Y[k + j]'(by omega) < 4294967296 := Num.small_at hB.out.2 (by omega)
        have hcl := hbk.out.cell (k + j) (by rw [mid_len hzl (by omega)]; omega)
        rw [mid_at hzl (by omega)] at hcl
        have HLD : Hid ((Y.drop k).getD j 0 = Y[k + j]'(by omega)) := hide (drop_getD (by omega))
        have HST := hide (fun x hx => hbk.out.set (k + j) x hx)
        have HMS := hide (fun x => mid_set (x := x) hzl (show k + j < Y.length by omega))
        generalize Y[k + j]'_ = l at *
        have hw1 := wrap_i (a := (k : Int) + (j : Int)) (by omega) (by omega)
        have hidx : (k : Int) + (j : Int) < (xs.length : Int) + (ys.length : Int) := by omega
        by_cases hjt : j < ys.length
        · have hjt' : (j : Int) < (ys.length : Int) := by omega
          obtain ⟨ga, oa, rfl, hca2⟩ := HXK.out _ hZi.out
          obtain ⟨gb, ob, rfl, hgb, hcb2⟩ := seg_cell (HBB.out.below hZi.out) j hjt
          have hps := Num.small_at HBB.out.2.2.2.1 hjt
          have HPD : Hid (ys.getD j 0 = ys[j]) := hide (by simp [hjt])
          generalize ys[j] = p at *
          have hMb := prod_le hsm hps
          have hM0 : (f : Int) * (p : Int) = ((f * p : Nat) : Int) := (Int.natCast_mul f p).symm
          have HTS := hide (fun hb => tso_step (t := f * p + l + c) hS.out HLD.out HPD.out rfl hb)
          clear hS
          generalize f * p = M at *
          have hw2 := wrap_u (a := (M : Int)) (by omega) (by omega)
          have hw3 := wrap_u (a := (M : Int) + (l : Int)) (by omega) (by omega)
          have hw4 := wrap_u (a := (M : Int) + (l : Int) + (c : Int)) (by omega) (by omega)
          have e32 := and32 ((M : Int) + (l : Int) + (c : Int)) (by omega) (by omega)
          go_wp2_with fail
          go_quiet (fail)
          go_wp2
          refine ⟨⟨j + 1, (M + l + c) / 4294967296, zs ++ [(M + l + c) % 4294967296], by omega, by go_num, by go_num, by omega, hide (HTS.out (by omega)), ?_⟩, by simp [intOf]; omega⟩
          have hs := (hbk.out.below (below_drewN (bl_refl wr) nq)).set (k + j) ((M + l + c) % 4294967296) (by omega)
          rw [HMS.out] at hs
          have ev : ((M : Int) + (l : Int) + (c : Int)) % 4294967296 = (((M + l + c) % 4294967296 : Nat) : Int) := by omega
          rw [ev]
          exact ⟨hide hs.1, hide ((below_drewN hZi.out nq).setCell (p := ⟨w.heap.size, k + j, none⟩) (Nat.le_refl _) _)⟩
        · obtain rfl : j = ys.length := by omega
          have HN5 := hide (HPS.out zs c hS.out)
          have hs := HST.out c hc
          rw [HMS.out] at hs
          have HS5 := hide hs.1
          clear hs
          go_wp2
          refine ⟨⟨k + 1, _, by omega, by go_num, HN5.out.1, HS5, hide HN5.out.2.1, hide HN5.out.2.2, hide (hZi.out.setCell (p := ⟨w.heap.size, k + ys.length, none⟩) (Nat.le_refl _) _)⟩, by simp [intOf]; omega⟩
    · obtain rfl : k = xs.length := by omega
      have HO := hide (hB.out.own (base := w.heap.size) (Nat.le_refl _) (by omega))
      rw [hYl] at HO
      go_wp2
      go_ret
      refine ⟨Y, rfl, HO.out, ?_, hZ.out⟩
      rw [hN.out, List.take_of_length_le (Nat.le_refl _)]
end Go.Proofs.Ytpjckilmbidbgaa

/- The walks of l02Short and divideShort: a list of limbs divided by one limb, in new memory. -/
namespace Go.Proofs.Ytpjckilmbidbgaa
open Go.RowKit
set_option linter.unusedVariables false

/-- the quotient and the rest so far: the limbs from place k on -/
def DSo (d : Nat) (xs qs : List Nat) (k r : Nat) : Prop :=
  qs.length = xs.length ∧ Num.Small qs ∧ r < d ∧ Num.nat (xs.drop k) = Num.nat (qs.drop k) * d + r
theorem quot_lt {d r x : Nat} (hr : r < d) (hx : x < 4294967296) : (r * 4294967296 + x) / d < 4294967296 := by
  rw [Nat.div_lt_iff_lt_mul (by omega)]
  have : (r + 1) * 4294967296 ≤ d * 4294967296 := Nat.mul_le_mul_right _ hr
  rw [Nat.add_mul] at this
  rw [Nat.mul_comm 4294967296 d]
  omega
theorem own_one (w : World) (p : Nat) (hp : p < 4294967296) : Own (w.alloc (Obj.cells #[Value.int .u32 p] 51)) w.heap.size (some ⟨w.heap.size, 0, none⟩) 1 1 [p] := by
  refine ⟨?_, fun x hx => ?_⟩
  · have := World.ownsRow_lit (base := w.heap.size) (e := 51) (size := 1) w #[Value.int .u32 p] 1 (Nat.le_refl _) (by unfold maxLen; omega) rfl
    simpa [lim] using this
  · simp at hx; omega
theorem dso_step {d : Nat} {xs qs : List Nat} {k r x : Nat} (h : DSo d xs qs (k + 1) r) (hk : k < xs.length) (hx : xs[k] = x) (hd : d < 4294967296) (hxs : x < 4294967296) :
    DSo d xs (qs.set k ((r * 4294967296 + x) / d)) k ((r * 4294967296 + x) % d) := by
  obtain ⟨h1, h2, h3, h4⟩ := h
  have hd0 : 0 < d := by omega
  have hq : (r * 4294967296 + x) / d < 4294967296 := by
    rw [Nat.div_lt_iff_lt_mul hd0]
    have : (r + 1) * 4294967296 ≤ d * 4294967296 := Nat.mul_le_mul_right _ h3
    rw [Nat.add_mul] at this
    rw [Nat.mul_comm 4294967296 d]
    omega
  have hkq : k < qs.length := by omega
  refine ⟨by rw [List.length_set]; exact h1, Num.small_set h2 _ _ hq, Nat.mod_lt _ hd0, ?_⟩
  have e1 : (qs.set k ((r * 4294967296 + x) / d)).drop k = ((r * 4294967296 + x) / d) :: qs.drop (k + 1) := by
    rw [List.drop_set, if_neg (by omega), Nat.sub_self, List.drop_eq_getElem_cons hkq, List.set_cons_zero]
  rw [e1, Num.nat_drop xs k hk, hx, h4, Num.nat]
  have e2 := Nat.div_add_mod (r * 4294967296 + x) d
  rw [Nat.add_mul, Nat.mul_comm ((r * 4294967296 + x) / d) d]
  generalize d * ((r * 4294967296 + x) / d) = A at *
  rw [Nat.mul_add, Nat.mul_assoc 4294967296]
  generalize 4294967296 * (Num.nat (qs.drop (k + 1)) * d) = B at *
  omega

set_option maxHeartbeats 4000000 in
set_option maxRecDepth 20000 in
theorem shortS (a : Option Addr) (n ca d : Nat) (xs : List Nat) (w : World) (ha : Seg w a n ca xs) (hn : n ≤ 1000000) (hd0 : 0 < d) (hd : d < 4294967296) :
    Calls Try.prog 91 #[.slice a n ca, .int .u32 d] w fun e w' => ∃ (g2 : Nat) (qs : List Nat) (r : Nat), e = .returned (.tuple #[.slice (some ⟨w.heap.size, 0, none⟩) n n, .slice (some ⟨g2, 0, none⟩) 1 1]) ∧ w.heap.size < g2 ∧ DSo d xs qs 0 r ∧ Own w' w.heap.size (some ⟨w.heap.size, 0, none⟩) n n qs ∧ Own w' g2 (some ⟨g2, 0, none⟩) 1 1 [r] ∧ Below w.heap.size w w' := by
  obtain ⟨i0, hi, hz0, hz1, hz2⟩ := info_parts Try.info51
  obtain rfl := ha.1
  have hca := ha.2.1
  have hcm := ha.2.2.1
  have HA := hide ha
  clear ha
  go_enter Try.func91, Try.ntmps91
  go_wp2_with (at_make; refine wpList_make_full _ rfl _ _ 24 rfl w.heap.size 51 i0 (.int .u32 0) 1 Try.underlying24 hi hz0 hz1 _ _ _ _ xs.length rfl rfl rfl rfl (by rw [hz2]; omega) (by unfold maxLen; omega) (Nat.le_refl _) ?_; intro w3 hown hgrow; have HZ3 := hide ((bl_refl w).grown hgrow (Nat.le_refl _) (by simp)); have B3 := hide (own_made2 hown).blk; clear hown hgrow)
  go_loopw [7, 8, 9] (fun rv i _ wr => ∃ (k r : Nat) (qs : List Nat), k ≤ xs.length ∧ i = .int .i64 ((k : Int) - 1) ∧ rv = .int .u64 r ∧ r < d ∧ Hid (DSo d xs qs k r) ∧ Hid (Blk wr w.heap.size qs) ∧ Hid (Below w.heap.size w wr)) (fun _ i _ _ => (intOf i + 1).toNat)
  case atStart =>
    refine ⟨xs.length, 0, List.replicate xs.length 0, Nat.le_refl _, by go_num, rfl, hd0, hide ⟨by simp, Num.small_replicate _, hd0, ?_⟩, B3, HZ3⟩
    rw [List.drop_eq_nil_of_le (Nat.le_refl _), List.drop_eq_nil_of_le (by simp)]; simp [Num.nat]
  case round =>
    obtain ⟨k, r, qs, hk, rfl, rfl, hr, hS, hB, hZ⟩ := hrel
    by_cases h0 : k = 0
    · subst h0
      have hr32 : r < 4294967296 := by omega
      have HO := hide (hB.out.own (base := w.heap.size) (Nat.le_refl _) (by rw [hS.out.1]; omega))
      rw [hS.out.1] at HO
      have hlt := hB.out.lt
      go_wp2
      go_ret2
      exact ⟨wr.heap.size, qs, r, rfl, hlt, hS.out, HO.out.below (bl_alloc (bl_refl wr) _), own_one wr r hr32, bl_alloc hZ.out _⟩
    · obtain ⟨j, rfl⟩ : ∃ j, k = j + 1 := ⟨k - 1, by omega⟩
      have ej : (((j + 1 : Nat) : Int) - 1) = (j : Int) := by omega
      rw [ej]
      have hjx : j < xs.length := by omega
      have hjx' : (j : Int) < (xs.length : Int) := by omega
      obtain ⟨g, o, rfl, hg, hc⟩ := seg_cell (HA.out.below hZ.out) j hjx
      have hxs := Num.small_at HA.out.2.2.2.1 hjx
      have HST := hide (dso_step hS.out hjx rfl hd hxs)
      have hql : qs.length = xs.length := hS.out.1
      have hcl := hB.out.cell j (by omega)
      have hfz := hB.out.frozen j
      generalize xs[j] = x at *
      obtain ⟨y, hy⟩ : ∃ y, qs[j]'(by omega) = y := ⟨_, rfl⟩
      rw [hy] at hcl
      clear hy hS
      have hdi : ((d : Int) == 0) = false := by rw [beq_eq_false_iff_ne]; omega
      have hq := quot_lt hr hxs
      have e1 : ((r : Int) * 4294967296 + (x : Int)) % (d : Int) = (((r * 4294967296 + x) % d : Nat) : Int) := by
        rw [Int.natCast_emod, Int.natCast_add, Int.natCast_mul]; rfl
      have e2 : ((r : Int) * 4294967296 + (x : Int)) / (d : Int) % 4294967296 = (((r * 4294967296 + x) / d : Nat) : Int) := by
        have : ((r : Int) * 4294967296 + (x : Int)) / (d : Int) = (((r * 4294967296 + x) / d : Nat) : Int) := by rw [Int.natCast_ediv, Int.natCast_add, Int.natCast_mul]; rfl
        rw [this]
        clear HST this
        generalize (r * 4294967296 + x) / d = q at *
        omega
      have E1 := hide e1
      have E2 := hide e2
      have HSB := hide (hB.out.set j ((r * 4294967296 + x) / d) hq)
      clear e1 e2
      go_wp2
      rw [E1.out, E2.out]
      exact ⟨⟨j, (r * 4294967296 + x) % d, _, by omega, by go_num, rfl, Nat.mod_lt _ hd0, HST, hide HSB.out.1, hide (hZ.out.setCell (p := ⟨w.heap.size, j, none⟩) (Nat.le_refl _) _)⟩, by simp [intOf]⟩
end Go.Proofs.Ytpjckilmbidbgaa

/- The walks of the two ToInt: the int that a number is; nothing that was there turns. -/
namespace Go.Proofs.Ytpjckilmbidbgaa
open Go.RowKit
set_option linter.unusedVariables false

/-- the int that a sign and limbs are, and whether they are one -/
def fitsI (neg : Bool) (xs : List Nat) : Bool := okB neg xs && decide (-9223372036854775808 ≤ mk neg (Num.nat xs) ∧ mk neg (Num.nat xs) ≤ 9223372036854775807)
def toIntR (neg : Bool) (xs : List Nat) : Int := if fitsI neg xs then mk neg (Num.nat xs) else 0

theorem ret_two {a b : Int} {t : Bool} (h : a = b) : Ending.returned (.tuple #[.int .i64 a, .bool t]) = .returned (.tuple #[.int .i64 b, .bool t]) := by rw [h]
theorem or32 (m x : Int) (h0 : 0 ≤ m) (h1 : m < 4294967296) (hx : 0 ≤ x) (hx1 : x < 4294967296) : bits .or .u64 m (x * 4294967296) = m + x * 4294967296 := by
  obtain ⟨m, rfl⟩ := Int.eq_ofNat_of_zero_le h0
  obtain ⟨x, rfl⟩ := Int.eq_ofNat_of_zero_le hx
  have key : (BitVec.ofInt 64 (m : Int) ||| BitVec.ofInt 64 ((x : Int) * 4294967296)).toNat = m + x * 4294967296 := by
    rw [BitVec.toNat_or, BitVec.toNat_ofInt, BitVec.toNat_ofInt]
    have e1 : ((m : Int) % ((2 ^ 64 : Nat) : Int)).toNat = m := by omega
    have e2 : (((x : Int) * 4294967296) % ((2 ^ 64 : Nat) : Int)).toNat = 2 ^ 32 * x := by omega
    rw [e1, e2, Nat.or_comm, ← Nat.two_pow_add_eq_or_of_lt (by omega)]
    omega
  show IntKind.u64.wrap ((BitVec.ofInt 64 (m : Int) ||| BitVec.ofInt 64 ((x : Int) * 4294967296)).toNat : Nat) = _
  rw [key, IntKind.wrap_u64]
  omega
theorem or0 (x : Int) (hx : 0 ≤ x) (hx1 : x < 4294967296) : bits .or .u64 0 x = x := by
  obtain ⟨x, rfl⟩ := Int.eq_ofNat_of_zero_le hx
  have key : (BitVec.ofInt 64 (0 : Int) ||| BitVec.ofInt 64 (x : Int)).toNat = x := by
    rw [BitVec.toNat_or, BitVec.toNat_ofInt, BitVec.toNat_ofInt]
    have e2 : ((x : Int) % ((2 ^ 64 : Nat) : Int)).toNat = x := by omega
    rw [e2]; simp
  show IntKind.u64.wrap ((BitVec.ofInt 64 (0 : Int) ||| BitVec.ofInt 64 (x : Int)).toNat : Nat) = _
  rw [key, IntKind.wrap_u64]
  omega

end Go.Proofs.Ytpjckilmbidbgaa

/- The walks of bits.Div32 and divideShort: a list of limbs divided by one limb, in new memory. -/
namespace Go.Proofs.Ytpjckilmbidbgaa
open Go.RowKit
set_option linter.unusedVariables false

theorem or32' (m x : Int) (h0 : 0 ≤ m) (h1 : m < 4294967296) (hx : 0 ≤ x) (hx1 : x < 4294967296) : bits .or .u64 (x * 4294967296) m = x * 4294967296 + m := by
  have h := or32 m x h0 h1 hx hx1
  have e : bits .or .u64 (x * 4294967296) m = bits .or .u64 m (x * 4294967296) := by
    show IntKind.u64.wrap ((BitVec.ofInt 64 (x * 4294967296) ||| BitVec.ofInt 64 m).toNat : Nat) = IntKind.u64.wrap ((BitVec.ofInt 64 m ||| BitVec.ofInt 64 (x * 4294967296)).toNat : Nat)
    rw [BitVec.or_comm]
  rw [e, h]; omega

theorem ret_two32 {a b c d : Int} (h : a = c) (k : b = d) : Ending.returned (.tuple #[.int .u32 a, .int .u32 b]) = .returned (.tuple #[.int .u32 c, .int .u32 d]) := by rw [h, k]

set_option maxHeartbeats 2000000 in
set_option maxRecDepth 20000 in
theorem div32 (r x d : Nat) (w : World) (hr : r < d) (hd : d < 4294967296) (hx : x < 4294967296) :
    Calls Try.prog 93 #[.int .u32 r, .int .u32 x, .int .u32 d] w fun e w' => e = .returned (.tuple #[.int .u32 (((r * 4294967296 + x) / d : Nat) : Int), .int .u32 (((r * 4294967296 + x) % d : Nat) : Int)]) ∧ ∃ m, w' = w.drewN m := by
  have hq := quot_lt hr hx
  have hrm := Nat.mod_lt (r * 4294967296 + x) (show 0 < d by omega)
  have hor := or32' x r (by omega) (by omega) (by omega) (by omega)
  have e1 : ((r : Int) * 4294967296 + (x : Int)) % (d : Int) = (((r * 4294967296 + x) % d : Nat) : Int) := by
    rw [Int.natCast_emod, Int.natCast_add, Int.natCast_mul]; rfl
  have e2 : ((r : Int) * 4294967296 + (x : Int)) / (d : Int) = (((r * 4294967296 + x) / d : Nat) : Int) := by
    rw [Int.natCast_ediv, Int.natCast_add, Int.natCast_mul]; rfl
  have hdr : ¬ (d : Int) ≤ (r : Int) := by omega
  have hd0 : ((d : Int) != 0) = true := by rw [bne_iff_ne]; omega
  have E1 := hide e1
  have E2 := hide e2
  have HQ := hide hq
  have HR := hide hrm
  clear e1 e2 hq hrm
  go_enter Try.func93, Try.ntmps93
  have hdz : ((d : Int) == 0) = false := by rw [beq_eq_false_iff_ne]; omega
  go_wp2_with fail
  go_quiet (fail)
  go_wp2
  go_ret2
  refine ⟨ret_two32 ?_ ?_, nq, rfl⟩
  · rw [E2.out]
    have := HQ.out
    generalize (r * 4294967296 + x) / d = q at *
    omega
  · rw [E1.out]
    have := HR.out
    generalize (r * 4294967296 + x) % d = q at *
    omega

set_option maxHeartbeats 4000000 in
set_option maxRecDepth 20000 in
theorem shortI (a : Option Addr) (n ca d : Nat) (xs : List Nat) (w : World) (ha : Seg w a n ca xs) (hn : n ≤ 1000000) (hd0 : 0 < d) (hd : d < 4294967296) :
    Calls Try.prog 82 #[.slice a n ca, .int .u32 d] w fun e w' => ∃ (qs : List Nat) (r : Nat), e = .returned (.tuple #[.slice (some ⟨w.heap.size, 0, none⟩) n n, .int .u32 r]) ∧ DSo d xs qs 0 r ∧ Own w' w.heap.size (some ⟨w.heap.size, 0, none⟩) n n qs ∧ Below w.heap.size w w' := by
  obtain ⟨i0, hi, hz0, hz1, hz2⟩ := info_parts Try.info51
  obtain rfl := ha.1
  have hca := ha.2.1
  have hcm := ha.2.2.1
  have HA := hide ha
  clear ha
  go_enter Try.func82, Try.ntmps82
  go_wp2_with (at_make; refine wpList_make_full _ rfl _ _ 24 rfl w.heap.size 51 i0 (.int .u32 0) 1 Try.underlying24 hi hz0 hz1 _ _ _ _ xs.length rfl rfl rfl rfl (by rw [hz2]; omega) (by unfold maxLen; omega) (Nat.le_refl _) ?_; intro w3 hown hgrow; have HZ3 := hide ((bl_refl w).grown hgrow (Nat.le_refl _) (by simp)); have B3 := hide (own_made2 hown).blk; clear hown hgrow)
  go_loopw [7, 8] (fun rv i wr => ∃ (k r : Nat) (qs : List Nat), k ≤ xs.length ∧ i = .int .i64 ((k : Int) - 1) ∧ rv = .int .u32 r ∧ r < d ∧ Hid (DSo d xs qs k r) ∧ Hid (Blk wr w.heap.size qs) ∧ Hid (Below w.heap.size w wr)) (fun _ i _ => (intOf i + 1).toNat)
  case atStart =>
    refine ⟨xs.length, 0, List.replicate xs.length 0, Nat.le_refl _, by go_num, rfl, hd0, hide ⟨by simp, Num.small_replicate _, hd0, ?_⟩, B3, HZ3⟩
    rw [List.drop_eq_nil_of_le (Nat.le_refl _), List.drop_eq_nil_of_le (by simp)]; simp [Num.nat]
  case round =>
    obtain ⟨k, r, qs, hk, rfl, rfl, hr, hS, hB, hZ⟩ := hrel
    by_cases h0 : k = 0
    · subst h0
      have HO := hide (hB.out.own (base := w.heap.size) (Nat.le_refl _) (by rw [hS.out.1]; omega))
      rw [hS.out.1] at HO
      go_wp2
      go_ret2
      exact ⟨qs, r, rfl, hS.out, HO.out, hZ.out⟩
    · obtain ⟨j, rfl⟩ : ∃ j, k = j + 1 := ⟨k - 1, by omega⟩
      have ej : (((j + 1 : Nat) : Int) - 1) = (j : Int) := by omega
      rw [ej]
      have hjx : j < xs.length := by omega
      have hjx' : (j : Int) < (xs.length : Int) := by omega
      obtain ⟨g, o, rfl, hg, hc⟩ := seg_cell (HA.out.below hZ.out) j hjx
      have hxs := Num.small_at HA.out.2.2.2.1 hjx
      have HST := hide (dso_step hS.out hjx rfl hd hxs)
      have hql : qs.length = xs.length := hS.out.1
      generalize xs[j] = x at *
      have hq := quot_lt hr hxs
      go_wp2_with fail
      refine (div32 r x d _ hr hd hxs).mono ?_
      rintro e w5 ⟨rfl, m, hw5⟩
      have hB5 : Blk w5 w.heap.size qs := by rw [hw5]; exact hB.out.below (below_drewN (bl_refl wr) m)
      have hZ5 : Hid (Below w.heap.size w w5) := hide (by rw [hw5]; exact below_drewN hZ.out m)
      clear hw5
      have hcl := hB5.cell j (by omega)
      have hfz := hB5.frozen j
      have HSB := hide (hB5.set j ((r * 4294967296 + x) / d) hq)
      obtain ⟨y, hy⟩ : ∃ y, qs[j]'(by omega) = y := ⟨_, rfl⟩
      rw [hy] at hcl
      have hrm := Nat.mod_lt (r * 4294967296 + x) hd0
      clear hy hS hB hB5
      generalize (r * 4294967296 + x) / d = q at *
      generalize (r * 4294967296 + x) % d = r2 at *
      go_wp2
      exact ⟨⟨j, r2, _, by omega, by go_num, rfl, hrm, HST, hide HSB.out.1, hide (hZ5.out.setCell (p := ⟨w.heap.size, j, none⟩) (Nat.le_refl _) _)⟩, by simp [intOf]⟩
end Go.Proofs.Ytpjckilmbidbgaa

/- Plain facts on long division of numbers in limbs; nothing of the program stands here. -/
namespace Go.Proofs.Ytpjckilmbidbgaa.Num
set_option linter.unusedVariables false
theorem guess_ge {P D E t M : Nat} (hM : 0 < M) (ht : 0 < t) (hP : P < (E + 1) * M) (hD : t * M ≤ D) : P / D ≤ E / t := by
  rw [Nat.le_div_iff_mul_le ht]
  have h1 : P / D * D ≤ P := Nat.div_mul_le_self P D
  have h2 : P / D * (t * M) ≤ P / D * D := Nat.mul_le_mul_left _ hD
  have h3 : P / D * t * M < (E + 1) * M := by rw [Nat.mul_assoc]; omega
  have := Nat.lt_of_mul_lt_mul_right h3
  omega
/-- a list whose number is below the n-th power has noughts alone behind n limbs -/
theorem drop_zero {xs : List Nat} {n : Nat} (h : nat xs < 4294967296 ^ n) : nat (xs.drop n) = 0 := by
  by_cases hn : n ≤ xs.length
  · have e := nat_take_drop xs n hn
    refine Nat.eq_zero_of_not_pos fun hp => ?_
    have : 4294967296 ^ n * 1 ≤ 4294967296 ^ n * nat (xs.drop n) := Nat.mul_le_mul_left _ hp
    omega
  · rw [List.drop_eq_nil_of_le (by omega)]; rfl
theorem take_all {xs : List Nat} {n : Nat} (hn : n ≤ xs.length) (h : nat xs < 4294967296 ^ n) : nat (xs.take n) = nat xs := nat_take_of_zero hn (drop_zero h)
theorem pow_pos' (n : Nat) : 0 < 4294967296 ^ n := Nat.pow_pos (by decide)
/-- the ends of a list of n + 2 limbs -/
theorem ends_up {xs : List Nat} {n : Nat} (hs : Small xs) (hl : xs.length = n + 2) (h0 : n < xs.length) (h1 : n + 1 < xs.length) : nat xs < (xs[n + 1] * 4294967296 + xs[n] + 1) * 4294967296 ^ n := by
  have e := nat_take_drop xs n (by omega)
  have h2 := nat_lt (small_take hs n)
  rw [List.length_take, Nat.min_eq_left (by omega)] at h2
  rw [nat_drop xs n h0, nat_drop xs (n + 1) h1, List.drop_eq_nil_of_le (by omega : xs.length ≤ n + 1 + 1)] at e
  simp only [nat] at e
  rw [Nat.add_mul, Nat.one_mul, Nat.mul_comm (xs[n + 1] * 4294967296 + xs[n])]
  have e3 : xs[n] + 4294967296 * (xs[n + 1] + 4294967296 * 0) = xs[n + 1] * 4294967296 + xs[n] := by omega
  rw [e3] at e
  omega
theorem top_le {xs : List Nat} {n : Nat} (h0 : n < xs.length) : xs[n] * 4294967296 ^ n ≤ nat xs := by
  have e := nat_take_drop xs n (by omega)
  rw [nat_drop xs n h0, Nat.mul_add, Nat.mul_comm (4294967296 ^ n) xs[n]] at e
  omega
/-- the quotient and the rest so far: the limbs from place k on -/
def LSo (S D n m : Nat) (rs qs : List Nat) (k : Nat) : Prop :=
  rs.length = m + n ∧ qs.length = m ∧ Small rs ∧ Small qs ∧ nat (rs.drop k) < D ∧ nat rs + D * (4294967296 ^ k * nat (qs.drop k)) = S
theorem lso_part {S D n m k : Nat} {rs qs : List Nat} (h : LSo S D n m rs qs (k + 1)) (hk : k < m) (hD : D < 4294967296 ^ n) :
    nat ((rs.drop k).take (n + 1)) < 4294967296 * D ∧ nat (rs.drop (k + (n + 1))) = 0 := by
  obtain ⟨h1, h2, h3, h4, h5, h6⟩ := h
  have hz : nat (rs.drop (k + (n + 1))) = 0 := by
    have := drop_zero (xs := rs.drop (k + 1)) (n := n) (by omega)
    rw [List.drop_drop] at this
    rw [show k + (n + 1) = k + 1 + n by omega]; exact this
  refine ⟨?_, hz⟩
  have e := nat_take_of_zero (xs := rs.drop k) (n := n + 1) (by rw [List.length_drop]; omega) (by rw [List.drop_drop]; exact hz)
  rw [e, nat_drop rs k (by omega)]
  have hx := small_at h3 (show k < rs.length by omega)
  omega
theorem lso_step {S D n m k : Nat} {rs qs zs : List Nat} (h : LSo S D n m rs qs (k + 1)) (hk : k < m) (hD : D < 4294967296 ^ n) (hD0 : 0 < D) (hzs : Small zs) (hzl : zs.length = n + 1)
    (hz : nat zs = nat ((rs.drop k).take (n + 1)) % D) : LSo S D n m (rs.take k ++ zs ++ rs.drop (k + (n + 1))) (qs.set k (nat ((rs.drop k).take (n + 1)) / D)) k := by
  obtain ⟨hP, hz0⟩ := lso_part h hk hD
  obtain ⟨h1, h2, h3, h4, h5, h6⟩ := h
  have hq : nat ((rs.drop k).take (n + 1)) / D < 4294967296 := by rw [Nat.div_lt_iff_lt_mul hD0]; exact hP
  have hl : (rs.take k ++ zs ++ rs.drop (k + (n + 1))).length = m + n := by simp; omega
  have hkl : (rs.take k).length = k := by rw [List.length_take]; omega
  have ed : (rs.take k ++ zs ++ rs.drop (k + (n + 1))).drop k = zs ++ rs.drop (k + (n + 1)) := by
    rw [List.append_assoc, List.drop_append_of_le_length (by omega), List.drop_eq_nil_of_le (by omega), List.nil_append]
  have en : nat (zs ++ rs.drop (k + (n + 1))) = nat zs := by rw [nat_append, hz0]; omega
  refine ⟨hl, by rw [List.length_set]; exact h2, small_append (small_append (small_take h3 k) hzs) (small_drop h3 _), small_set h4 _ _ hq, ?_, ?_⟩
  · rw [ed, en, hz]; exact Nat.mod_lt _ hD0
  · have e1 : (qs.set k (nat ((rs.drop k).take (n + 1)) / D)).drop k = (nat ((rs.drop k).take (n + 1)) / D) :: qs.drop (k + 1) := by
      rw [List.drop_set, if_neg (by omega), Nat.sub_self, List.drop_eq_getElem_cons (by omega), List.set_cons_zero]
    have e2 : nat rs = nat (rs.take k) + 4294967296 ^ k * nat ((rs.drop k).take (n + 1)) := by
      rw [nat_take_drop rs k (by omega)]
      congr 2
      exact (nat_take_of_zero (by rw [List.length_drop]; omega) (by rw [List.drop_drop]; exact hz0)).symm
    rw [e1, nat, List.append_assoc, nat_append, en, hkl, hz]
    rw [e2] at h6
    have e3 := Nat.div_add_mod (nat ((rs.drop k).take (n + 1))) D
    generalize nat ((rs.drop k).take (n + 1)) = P at *
    generalize nat (qs.drop (k + 1)) = Q at *
    rw [Nat.pow_succ] at h6
    generalize 4294967296 ^ k = M at *
    rw [← h6]
    have e4 : M * P = M * (D * (P / D)) + M * (P % D) := by rw [← Nat.mul_add, e3]
    have e5 : D * (M * (P / D + 4294967296 * Q)) = M * (D * (P / D)) + D * (M * 4294967296 * Q) := by
      rw [Nat.mul_add, Nat.mul_add, Nat.mul_left_comm D M, Nat.mul_assoc M]
    rw [e4, e5]
    omega
theorem lso_start {A s B n m : Nat} {rs : List Nat} {la : Nat} (hs : Small rs) (hl : rs.length = la + 1) (hm : m + n = la + 1) (hv : nat rs = A * s) (hA : A < 4294967296 ^ la) (hB : 4294967296 ^ (n - 1) ≤ B) (hn : 1 ≤ n) (hs0 : 0 < s) :
    LSo (A * s) (B * s) n m rs (List.replicate m 0) m := by
  refine ⟨by omega, by simp, hs, small_replicate m, ?_, ?_⟩
  · have h1 : A * s < 4294967296 ^ m * (B * s) := by
      have h2 : 4294967296 ^ m * 4294967296 ^ (n - 1) ≤ 4294967296 ^ m * B := Nat.mul_le_mul_left _ hB
      rw [← Nat.pow_add, show m + (n - 1) = la by omega] at h2
      rw [← Nat.mul_assoc]
      exact Nat.mul_lt_mul_of_pos_right (Nat.lt_of_lt_of_le hA h2) hs0
    have e := nat_take_drop rs m (by omega)
    rw [hv] at e
    refine Nat.lt_of_not_le fun hc => ?_
    have : 4294967296 ^ m * (B * s) ≤ 4294967296 ^ m * nat (rs.drop m) := Nat.mul_le_mul_left _ hc
    omega
  · rw [List.drop_eq_nil_of_le (by simp)]
    simp [nat, hv]
theorem lso_end {A s B n m : Nat} {rs qs : List Nat} (h : LSo (A * s) (B * s) n m rs qs 0) (hs0 : 0 < s) (hB : 0 < B) : nat qs = A / B ∧ nat rs = A % B * s ∧ nat rs < B * s := by
  obtain ⟨_, _, _, _, h5, h6⟩ := h
  rw [List.drop_zero] at h5 h6
  rw [Nat.pow_zero, Nat.one_mul] at h6
  have h7 : nat qs = A / B := by
    have e : A * s / (B * s) = nat qs := by
      rw [← h6, Nat.add_mul_div_left _ _ (Nat.mul_pos hB hs0), Nat.div_eq_of_lt h5, Nat.zero_add]
    rw [← e, Nat.mul_div_mul_right _ _ hs0]
  refine ⟨h7, ?_, h5⟩
  have e2 : nat rs = A * s % (B * s) := by
    rw [← h6, Nat.add_mul_mod_self_left, Nat.mod_eq_of_lt h5]
  rw [e2, Nat.mul_mod_mul_right]
/-- one round of the guess: what was taken away too often comes back -/
theorem back_step {P D g l Z Z' c M : Nat} (h : Z + D * g = P + M * l) (hZ : Z < M) (hl : l = 1) (hadd : Z' + M * c = Z + D) (hc : c ≤ 1) : P / D < g ∧ 0 < g ∧ Z' + D * (g - 1) = P + M * (1 - c) := by
  subst hl
  have h1 : P < D * g := by omega
  have hg : 0 < g := Nat.pos_of_ne_zero fun e => by subst e; omega
  have h2 : P / D < g := by
    rw [Nat.div_lt_iff_lt_mul (Nat.pos_of_ne_zero fun e => by subst e; omega), Nat.mul_comm]; exact h1
  refine ⟨h2, hg, ?_⟩
  obtain ⟨j, rfl⟩ : ∃ j, g = j + 1 := ⟨g - 1, by omega⟩
  rw [Nat.add_sub_cancel]
  rw [Nat.mul_add] at h
  obtain rfl | rfl : c = 0 ∨ c = 1 := by omega
  · simp at *; omega
  · simp at *; omega
theorem back_end {P D g Z : Nat} (h : Z + D * g = P) (hD : 0 < D) (hg : P / D ≤ g) : g = P / D ∧ Z = P % D := by
  have h1 : g ≤ P / D := by rw [Nat.le_div_iff_mul_le hD, Nat.mul_comm]; omega
  have h2 : g = P / D := by omega
  refine ⟨h2, ?_⟩
  have := Nat.div_add_mod P D
  rw [← h2] at this
  omega
theorem scale_fit {B n t s L : Nat} (hB : B < (t + 1) * 4294967296 ^ (n - 1)) (hn : 1 ≤ n) (ht : t < 2 ^ L) (hL : L ≤ 32) (hs : s = 2 ^ (32 - L)) : B * s < 4294967296 ^ n := by
  have h1 : (t + 1) * s ≤ 4294967296 := by
    have h2 : (t + 1) * s ≤ 2 ^ L * 2 ^ (32 - L) := by rw [hs]; exact Nat.mul_le_mul_right _ ht
    rw [← Nat.pow_add, show L + (32 - L) = 32 by omega] at h2
    exact h2
  have hs0 : 0 < s := by rw [hs]; exact Nat.pow_pos (by decide)
  have h3 : B * s < (t + 1) * 4294967296 ^ (n - 1) * s := Nat.mul_lt_mul_of_pos_right hB hs0
  have h4 : (t + 1) * s * 4294967296 ^ (n - 1) ≤ 4294967296 * 4294967296 ^ (n - 1) := Nat.mul_le_mul_right _ h1
  rw [Nat.mul_comm 4294967296, ← Nat.pow_succ, show (n - 1).succ = n by omega] at h4
  rw [Nat.mul_right_comm] at h3
  omega
end Go.Proofs.Ytpjckilmbidbgaa.Num
