/- The walks of the two Cmp: -1, 0 or 1; 2 where one isn't right; nothing that was there turns. -/
import Derived.Test.YtmdohdnnhlnghaaCmpB
namespace Go.Proofs.Ytmdohdnnhlnghaa
open Go.RowKit
set_option linter.unusedVariables false

def cmpR (n1 : Bool) (xs : List Nat) (n2 : Bool) (ys : List Nat) : Int := if okB n1 xs && okB n2 ys then cmpZ (mk n1 (Num.nat xs)) (mk n2 (Num.nat ys)) else 2

set_option maxHeartbeats 1000000 in
set_option maxRecDepth 20000 in
theorem CmpI (v1 v2 : Value) (n1 n2 : Bool) (xs ys : List Nat) (w : World) (h1 : Raw w v1 n1 xs) (h2 : Raw w v2 n2 ys) :
    Calls Try.prog 14 #[v1, v2] w fun e w' => e = .returned (.int .i64 (cmpR n1 xs n2 ys)) ∧ Below w.heap.size w w' := by
  obtain ⟨a, ca, rfl, ha⟩ := h1
  obtain ⟨b, cb, rfl, hb⟩ := h2
  have HA := hide (ha.below (below2 w (Obj.cells #[Value.bool n1, Value.slice a xs.length ca] 26) (Obj.cells #[Value.bool n2, Value.slice b ys.length cb] 26)))
  have HB := hide (hb.below (below2 w (Obj.cells #[Value.bool n1, Value.slice a xs.length ca] 26) (Obj.cells #[Value.bool n2, Value.slice b ys.length cb] 26)))
  have HZ := hide (below2 w (Obj.cells #[Value.bool n1, Value.slice a xs.length ca] 26) (Obj.cells #[Value.bool n2, Value.slice b ys.length cb] 26))
  have k0 : ((w.alloc (Obj.cells #[Value.bool n1, Value.slice a xs.length ca] 26)).alloc (Obj.cells #[Value.bool n2, Value.slice b ys.length cb] 26)).cell? ⟨w.heap.size, 0, none⟩ = some (.bool n1) := by go_simp
  have k1 : ((w.alloc (Obj.cells #[Value.bool n1, Value.slice a xs.length ca] 26)).alloc (Obj.cells #[Value.bool n2, Value.slice b ys.length cb] 26)).cell? ⟨w.heap.size, 1, none⟩ = some (.slice a xs.length ca) := by go_simp
  have k2 : ((w.alloc (Obj.cells #[Value.bool n1, Value.slice a xs.length ca] 26)).alloc (Obj.cells #[Value.bool n2, Value.slice b ys.length cb] 26)).cell? ⟨w.heap.size + 1, 0, none⟩ = some (.bool n2) := by go_simp
  have k3 : ((w.alloc (Obj.cells #[Value.bool n1, Value.slice a xs.length ca] 26)).alloc (Obj.cells #[Value.bool n2, Value.slice b ys.length cb] 26)).cell? ⟨w.heap.size + 1, 1, none⟩ = some (.slice b ys.length cb) := by go_simp
  have z1 : w.heap.size + 1 < ((w.alloc (Obj.cells #[Value.bool n1, Value.slice a xs.length ca] 26)).alloc (Obj.cells #[Value.bool n2, Value.slice b ys.length cb] 26)).heap.size := by simp only [World.size_alloc]; omega
  clear ha hb
  go_enter Try.func14, Try.ntmps14
  go_wp2_with fail
  generalize ((w.alloc (Obj.cells #[Value.bool n1, Value.slice a xs.length ca] 26)).alloc (Obj.cells #[Value.bool n2, Value.slice b ys.length cb] 26)) = w1 at *
  have z0 : w.heap.size < w1.heap.size := by omega
  refine (okI _ n1 xs _ ⟨a, ca, rfl, HA.out⟩).mono ?_
  rintro e w2 ⟨rfl, hb2⟩
  replace k0 := (hb2.cell (p := ⟨w.heap.size, 0, none⟩) z0).trans k0
  replace k1 := (hb2.cell (p := ⟨w.heap.size, 1, none⟩) z0).trans k1
  replace k2 := (hb2.cell (p := ⟨w.heap.size + 1, 0, none⟩) z1).trans k2
  replace k3 := (hb2.cell (p := ⟨w.heap.size + 1, 1, none⟩) z1).trans k3
  replace z0 := Nat.lt_of_lt_of_le z0 hb2.size
  replace z1 := Nat.lt_of_lt_of_le z1 hb2.size
  replace HA := hide (HA.out.below hb2)
  replace HB := hide (HB.out.below hb2)
  replace HZ := hide (bl_trans HZ.out hb2)
  clear hb2
  cases e1 : okB n1 xs with
  | false =>
    have HR : Hid (cmpR n1 xs n2 ys = 2) := hide (by unfold cmpR; rw [e1]; rfl)
    clear e1
    go_wp2
    go_ret
    exact ⟨ret_int HR.out.symm, HZ.out⟩
  | true =>
  have E1 := hide e1
  clear e1
  go_wp2_with fail
  refine (okI _ n2 ys _ ⟨b, cb, rfl, HB.out⟩).mono ?_
  rintro e w3 ⟨rfl, hb3⟩
  replace k0 := (hb3.cell (p := ⟨w.heap.size, 0, none⟩) z0).trans k0
  replace k1 := (hb3.cell (p := ⟨w.heap.size, 1, none⟩) z0).trans k1
  replace k2 := (hb3.cell (p := ⟨w.heap.size + 1, 0, none⟩) z1).trans k2
  replace k3 := (hb3.cell (p := ⟨w.heap.size + 1, 1, none⟩) z1).trans k3
  replace HA := hide (HA.out.below hb3)
  replace HB := hide (HB.out.below hb3)
  replace HZ := hide (bl_trans HZ.out hb3)
  clear hb3 z0 z1
  cases e2 : okB n2 ys with
  | false =>
    have HR : Hid (cmpR n1 xs n2 ys = 2) := hide (by unfold cmpR; rw [E1.out, e2]; rfl)
    clear e2
    go_wp2
    go_ret
    exact ⟨ret_int HR.out.symm, HZ.out⟩
  | true =>
  obtain ⟨x, rfl, rfl, hx⟩ := ok_num HA.out.2.2.2.1 E1.out
  obtain ⟨y, rfl, rfl, hy⟩ := ok_num HB.out.2.2.2.1 e2
  have HR : Hid (cmpR (sgn x) (lms x) (sgn y) (lms y) = cmpZ x y) := hide (by unfold cmpR; rw [E1.out, e2, nat_lms, nat_lms, mk_self, mk_self]; rfl)
  clear e2 hx hy
  go_wp2_with fail
  refine (cmpBI _ _ x y _ ⟨a, ca, rfl, HA.out⟩ ⟨b, cb, rfl, HB.out⟩).mono ?_
  rintro e w4 ⟨rfl, hb4⟩
  replace HZ := hide (bl_trans HZ.out hb4)
  clear hb4
  go_wp2
  go_ret
  exact ⟨ret_int HR.out.symm, HZ.out⟩

end Go.Proofs.Ytmdohdnnhlnghaa
