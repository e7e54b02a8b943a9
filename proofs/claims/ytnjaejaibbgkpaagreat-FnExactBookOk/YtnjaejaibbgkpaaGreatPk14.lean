/- My texts RcUnit, RcPrefix, Bkl, Vs, in this order. -/
import Derived.Test.YtnjaejaibbgkpaaGreatOb
import Derived.Test.YtnjaejaibbgkpaaGreatPk13
import Derived.Test.YtnjaejaibbgkpaaGreatPk05
import Derived.Deep.RegionHeld3
import Derived.Test.YtnjaejaibbgkpaaGreatPk02
/- What the law asks of Units and of lists of them: how great one is, a copy of one, whether two are alike. -/
namespace Go.Proofs.YtnjaejaibbgkpaaGreat
open Go.RowKit
set_option linter.unusedVariables false
set_option maxRecDepth 20000

/-- the shape of these records -/
def ShUn (r : List Lf) : Prop := ∃ nm n1 xs1 m1 ys1 den2 ps2, r = [.t nm, .b n1, .l xs1, .b m1, .l ys1, .i den2, .p ps2]

theorem openUn {W : World} {X : Nat → Prop} {g o : Nat} {nm : ByteArray} {n1 : Bool} {xs1 : List Nat} {m1 : Bool} {ys1 : List Nat} {den2 : Int} {ps2 : List Int} (h : Rec W X g o [.t nm, .b n1, .l xs1, .b m1, .l ys1, .i den2, .p ps2]) : ∃ a1 c1 a2 c2 a3 c3, W.cell? ⟨g, o, none⟩ = some (Value.string nm) ∧ W.cell? ⟨g, o + 1, none⟩ = some (Value.bool n1) ∧ W.cell? ⟨g, o + 2, none⟩ = some (Value.slice a1 xs1.length c1) ∧ W.cell? ⟨g, o + 3, none⟩ = some (Value.bool m1) ∧ W.cell? ⟨g, o + 4, none⟩ = some (Value.slice a2 ys1.length c2) ∧ W.cell? ⟨g, o + 5, none⟩ = some (Value.int .i64 den2) ∧ W.cell? ⟨g, o + 6, none⟩ = some (Value.slice a3 ps2.length c3) ∧ Seg W a1 xs1.length c1 xs1 ∧ Seg W a2 ys1.length c2 ys1 ∧ V.Seg W a3 ps2.length c3 ps2 ∧ (∀ q, a1 = some q → X q.block) ∧ (∀ q, a2 = some q → X q.block) ∧ (∀ q, a3 = some q → X q.block) := by
  obtain ⟨t0, t1, ⟨a1, c1, t2, s1, x1⟩, t3, ⟨a2, c2, t4, s2, x2⟩, t5, ⟨a3, c3, t6, s3, x3⟩, _⟩ := h
  exact ⟨a1, c1, a2, c2, a3, c3, t0, t1, t2, t3, t4, t5, t6, s1, s2, s3, x1, x2, x3⟩

set_option maxHeartbeats 4000000 in
set_option maxRecDepth 20000 in
theorem szUn (nm : ByteArray) (n1 : Bool) (xs1 : List Nat) (m1 : Bool) (ys1 : List Nat) (den2 : Int) (ps2 : List Int) (a1 : Option Addr) (c1 : Nat) (a2 : Option Addr) (c2 : Nat) (a3 : Option Addr) (c3 : Nat) (L : Int) (w : World) (s1 : Seg w a1 xs1.length c1 xs1) (s2 : Seg w a2 ys1.length c2 ys1) (s3 : V.Seg w a3 ps2.length c3 ps2) (hn0 : nm.size ≤ 9223372036854775807) (h0 : 0 ≤ L) (h1 : L ≤ 1048576) :
    Calls Tryz.prog 46 #[Value.agg #[Value.string nm, Value.bool n1, Value.slice a1 xs1.length c1, Value.bool m1, Value.slice a2 ys1.length c2, Value.int .i64 den2, Value.slice a3 ps2.length c3], .int .i64 L] w fun e w' => e = .returned (.int .i64 (rleft L (rsz [.t nm, .b n1, .l xs1, .b m1, .l ys1, .i den2, .p ps2]))) ∧ Below w.heap.size w w' := by
  have q1 := Seg.le s1
  have q2 := Seg.le s2
  have q3 := V.Seg.le s3
  have HZ : Hid (rsz [.t nm, .b n1, .l xs1, .b m1, .l ys1, .i den2, .p ps2] = nm.size + (xs1.length + (ys1.length + (ps2.length)))) := hide (by simp [rsz, Lf.sz])
  clear s1 s2 s3
  by_cases d1 : L - (nm.size : Int) < 0
  · have HB := hide (bl_alloc (bl_refl w) (Obj.cells #[Value.string nm, Value.bool n1, Value.slice a1 xs1.length c1, Value.bool m1, Value.slice a2 ys1.length c2, Value.int .i64 den2, Value.slice a3 ps2.length c3] 93))
    go_enter Tryz.func46, Tryz.ntmps46
    go_wp2
    go_ret
    exact ⟨ret_int (by rw [HZ.out]; unfold rleft; rw [if_pos (by omega)]), HB.out⟩
  have Xa : Hid ((w.alloc (Obj.cells #[Value.string nm, Value.bool n1, Value.slice a1 xs1.length c1, Value.bool m1, Value.slice a2 ys1.length c2, Value.int .i64 den2, Value.slice a3 ps2.length c3] 93)).heap[w.heap.size]? = some (.cells #[Value.string nm, Value.bool n1, Value.slice a1 xs1.length c1, Value.bool m1, Value.slice a2 ys1.length c2, Value.int .i64 den2, Value.slice a3 ps2.length c3] 93 (0, 0))) := hide (by simpa only [World.size_alloc] using (hnew w (Obj.cells #[Value.string nm, Value.bool n1, Value.slice a1 xs1.length c1, Value.bool m1, Value.slice a2 ys1.length c2, Value.int .i64 den2, Value.slice a3 ps2.length c3] 93)))
  have HB : Hid (Below w.heap.size w (w.alloc (Obj.cells #[Value.string nm, Value.bool n1, Value.slice a1 xs1.length c1, Value.bool m1, Value.slice a2 ys1.length c2, Value.int .i64 den2, Value.slice a3 ps2.length c3] 93))) := hide (bl_alloc (bl_refl w) (Obj.cells #[Value.string nm, Value.bool n1, Value.slice a1 xs1.length c1, Value.bool m1, Value.slice a2 ys1.length c2, Value.int .i64 den2, Value.slice a3 ps2.length c3] 93))
  have yw1 : w.heap.size + 1 ≤ (w.alloc (Obj.cells #[Value.string nm, Value.bool n1, Value.slice a1 xs1.length c1, Value.bool m1, Value.slice a2 ys1.length c2, Value.int .i64 den2, Value.slice a3 ps2.length c3] 93)).heap.size := by simp only [World.size_alloc]; omega
  have ka0 : (w.alloc (Obj.cells #[Value.string nm, Value.bool n1, Value.slice a1 xs1.length c1, Value.bool m1, Value.slice a2 ys1.length c2, Value.int .i64 den2, Value.slice a3 ps2.length c3] 93)).cell? ⟨w.heap.size, 0, none⟩ = some (Value.string nm) := (Lib.cell_of_heap Xa.out 0).trans rfl
  have fa0 : (w.alloc (Obj.cells #[Value.string nm, Value.bool n1, Value.slice a1 xs1.length c1, Value.bool m1, Value.slice a2 ys1.length c2, Value.int .i64 den2, Value.slice a3 ps2.length c3] 93)).frozen? ⟨w.heap.size, 0, none⟩ = false := Lib.frozen_of_heap Xa.out 0
  have ka1 : (w.alloc (Obj.cells #[Value.string nm, Value.bool n1, Value.slice a1 xs1.length c1, Value.bool m1, Value.slice a2 ys1.length c2, Value.int .i64 den2, Value.slice a3 ps2.length c3] 93)).cell? ⟨w.heap.size, 1, none⟩ = some (Value.bool n1) := (Lib.cell_of_heap Xa.out 1).trans rfl
  have fa1 : (w.alloc (Obj.cells #[Value.string nm, Value.bool n1, Value.slice a1 xs1.length c1, Value.bool m1, Value.slice a2 ys1.length c2, Value.int .i64 den2, Value.slice a3 ps2.length c3] 93)).frozen? ⟨w.heap.size, 1, none⟩ = false := Lib.frozen_of_heap Xa.out 1
  have ka2 : (w.alloc (Obj.cells #[Value.string nm, Value.bool n1, Value.slice a1 xs1.length c1, Value.bool m1, Value.slice a2 ys1.length c2, Value.int .i64 den2, Value.slice a3 ps2.length c3] 93)).cell? ⟨w.heap.size, 2, none⟩ = some (Value.slice a1 xs1.length c1) := (Lib.cell_of_heap Xa.out 2).trans rfl
  have fa2 : (w.alloc (Obj.cells #[Value.string nm, Value.bool n1, Value.slice a1 xs1.length c1, Value.bool m1, Value.slice a2 ys1.length c2, Value.int .i64 den2, Value.slice a3 ps2.length c3] 93)).frozen? ⟨w.heap.size, 2, none⟩ = false := Lib.frozen_of_heap Xa.out 2
  have ka3 : (w.alloc (Obj.cells #[Value.string nm, Value.bool n1, Value.slice a1 xs1.length c1, Value.bool m1, Value.slice a2 ys1.length c2, Value.int .i64 den2, Value.slice a3 ps2.length c3] 93)).cell? ⟨w.heap.size, 3, none⟩ = some (Value.bool m1) := (Lib.cell_of_heap Xa.out 3).trans rfl
  have fa3 : (w.alloc (Obj.cells #[Value.string nm, Value.bool n1, Value.slice a1 xs1.length c1, Value.bool m1, Value.slice a2 ys1.length c2, Value.int .i64 den2, Value.slice a3 ps2.length c3] 93)).frozen? ⟨w.heap.size, 3, none⟩ = false := Lib.frozen_of_heap Xa.out 3
  have ka4 : (w.alloc (Obj.cells #[Value.string nm, Value.bool n1, Value.slice a1 xs1.length c1, Value.bool m1, Value.slice a2 ys1.length c2, Value.int .i64 den2, Value.slice a3 ps2.length c3] 93)).cell? ⟨w.heap.size, 4, none⟩ = some (Value.slice a2 ys1.length c2) := (Lib.cell_of_heap Xa.out 4).trans rfl
  have fa4 : (w.alloc (Obj.cells #[Value.string nm, Value.bool n1, Value.slice a1 xs1.length c1, Value.bool m1, Value.slice a2 ys1.length c2, Value.int .i64 den2, Value.slice a3 ps2.length c3] 93)).frozen? ⟨w.heap.size, 4, none⟩ = false := Lib.frozen_of_heap Xa.out 4
  have ka5 : (w.alloc (Obj.cells #[Value.string nm, Value.bool n1, Value.slice a1 xs1.length c1, Value.bool m1, Value.slice a2 ys1.length c2, Value.int .i64 den2, Value.slice a3 ps2.length c3] 93)).cell? ⟨w.heap.size, 5, none⟩ = some (Value.int .i64 den2) := (Lib.cell_of_heap Xa.out 5).trans rfl
  have fa5 : (w.alloc (Obj.cells #[Value.string nm, Value.bool n1, Value.slice a1 xs1.length c1, Value.bool m1, Value.slice a2 ys1.length c2, Value.int .i64 den2, Value.slice a3 ps2.length c3] 93)).frozen? ⟨w.heap.size, 5, none⟩ = false := Lib.frozen_of_heap Xa.out 5
  have ka6 : (w.alloc (Obj.cells #[Value.string nm, Value.bool n1, Value.slice a1 xs1.length c1, Value.bool m1, Value.slice a2 ys1.length c2, Value.int .i64 den2, Value.slice a3 ps2.length c3] 93)).cell? ⟨w.heap.size, 6, none⟩ = some (Value.slice a3 ps2.length c3) := (Lib.cell_of_heap Xa.out 6).trans rfl
  have fa6 : (w.alloc (Obj.cells #[Value.string nm, Value.bool n1, Value.slice a1 xs1.length c1, Value.bool m1, Value.slice a2 ys1.length c2, Value.int .i64 den2, Value.slice a3 ps2.length c3] 93)).frozen? ⟨w.heap.size, 6, none⟩ = false := Lib.frozen_of_heap Xa.out 6
  have za : w.heap.size < (w.alloc (Obj.cells #[Value.string nm, Value.bool n1, Value.slice a1 xs1.length c1, Value.bool m1, Value.slice a2 ys1.length c2, Value.int .i64 den2, Value.slice a3 ps2.length c3] 93)).heap.size := hlt Xa.out
  go_enter Tryz.func46, Tryz.ntmps46
  go_wp2_with fail
  generalize (w.alloc (Obj.cells #[Value.string nm, Value.bool n1, Value.slice a1 xs1.length c1, Value.bool m1, Value.slice a2 ys1.length c2, Value.int .i64 den2, Value.slice a3 ps2.length c3] 93)) = w1 at *
  refine (szR n1 a1 xs1.length c1 m1 a2 ys1.length c2 (L - (nm.size : Int)) _ q1 q2 (by omega) (by omega)).mono ?_
  rintro e w2 ⟨rfl, hb⟩
  have yw2 := hb.size
  clear ka0 fa0 ka1 fa1 ka2 fa2 ka3 fa3 ka4 fa4 ka5 fa5 ka6 fa6 za
  replace Xa := hide (hbel Xa.out hb (by first | assumption | omega))
  replace HB := hide (bl_trans HB.out hb)
  clear hb
  have ka0 : w2.cell? ⟨w.heap.size, 0, none⟩ = some (Value.string nm) := (Lib.cell_of_heap Xa.out 0).trans rfl
  have fa0 : w2.frozen? ⟨w.heap.size, 0, none⟩ = false := Lib.frozen_of_heap Xa.out 0
  have ka1 : w2.cell? ⟨w.heap.size, 1, none⟩ = some (Value.bool n1) := (Lib.cell_of_heap Xa.out 1).trans rfl
  have fa1 : w2.frozen? ⟨w.heap.size, 1, none⟩ = false := Lib.frozen_of_heap Xa.out 1
  have ka2 : w2.cell? ⟨w.heap.size, 2, none⟩ = some (Value.slice a1 xs1.length c1) := (Lib.cell_of_heap Xa.out 2).trans rfl
  have fa2 : w2.frozen? ⟨w.heap.size, 2, none⟩ = false := Lib.frozen_of_heap Xa.out 2
  have ka3 : w2.cell? ⟨w.heap.size, 3, none⟩ = some (Value.bool m1) := (Lib.cell_of_heap Xa.out 3).trans rfl
  have fa3 : w2.frozen? ⟨w.heap.size, 3, none⟩ = false := Lib.frozen_of_heap Xa.out 3
  have ka4 : w2.cell? ⟨w.heap.size, 4, none⟩ = some (Value.slice a2 ys1.length c2) := (Lib.cell_of_heap Xa.out 4).trans rfl
  have fa4 : w2.frozen? ⟨w.heap.size, 4, none⟩ = false := Lib.frozen_of_heap Xa.out 4
  have ka5 : w2.cell? ⟨w.heap.size, 5, none⟩ = some (Value.int .i64 den2) := (Lib.cell_of_heap Xa.out 5).trans rfl
  have fa5 : w2.frozen? ⟨w.heap.size, 5, none⟩ = false := Lib.frozen_of_heap Xa.out 5
  have ka6 : w2.cell? ⟨w.heap.size, 6, none⟩ = some (Value.slice a3 ps2.length c3) := (Lib.cell_of_heap Xa.out 6).trans rfl
  have fa6 : w2.frozen? ⟨w.heap.size, 6, none⟩ = false := Lib.frozen_of_heap Xa.out 6
  have za : w.heap.size < w2.heap.size := hlt Xa.out
  by_cases d2 : L - (nm.size : Int) < (xs1.length : Int)
  · rw [if_pos d2]
    go_wp2
    go_ret
    exact ⟨ret_int (by rw [HZ.out]; unfold rleft; rw [if_pos (by omega)]), HB.out⟩
  rw [if_neg d2]
  by_cases d3 : L - (nm.size : Int) - (xs1.length : Int) < (ys1.length : Int)
  · rw [if_pos d3]
    go_wp2
    go_ret
    exact ⟨ret_int (by rw [HZ.out]; unfold rleft; rw [if_pos (by omega)]), HB.out⟩
  rw [if_neg d3]
  go_wp2_with fail
  refine (V.szB den2 a3 ps2.length c3 (L - (nm.size : Int) - (xs1.length : Int) - (ys1.length : Int)) _ q3 (by omega) (by omega)).mono ?_
  rintro e w3 ⟨rfl, hb⟩
  have yw3 := hb.size
  clear ka0 fa0 ka1 fa1 ka2 fa2 ka3 fa3 ka4 fa4 ka5 fa5 ka6 fa6 za
  replace Xa := hide (hbel Xa.out hb (by first | assumption | omega))
  replace HB := hide (bl_trans HB.out hb)
  clear hb
  have ka0 : w3.cell? ⟨w.heap.size, 0, none⟩ = some (Value.string nm) := (Lib.cell_of_heap Xa.out 0).trans rfl
  have fa0 : w3.frozen? ⟨w.heap.size, 0, none⟩ = false := Lib.frozen_of_heap Xa.out 0
  have ka1 : w3.cell? ⟨w.heap.size, 1, none⟩ = some (Value.bool n1) := (Lib.cell_of_heap Xa.out 1).trans rfl
  have fa1 : w3.frozen? ⟨w.heap.size, 1, none⟩ = false := Lib.frozen_of_heap Xa.out 1
  have ka2 : w3.cell? ⟨w.heap.size, 2, none⟩ = some (Value.slice a1 xs1.length c1) := (Lib.cell_of_heap Xa.out 2).trans rfl
  have fa2 : w3.frozen? ⟨w.heap.size, 2, none⟩ = false := Lib.frozen_of_heap Xa.out 2
  have ka3 : w3.cell? ⟨w.heap.size, 3, none⟩ = some (Value.bool m1) := (Lib.cell_of_heap Xa.out 3).trans rfl
  have fa3 : w3.frozen? ⟨w.heap.size, 3, none⟩ = false := Lib.frozen_of_heap Xa.out 3
  have ka4 : w3.cell? ⟨w.heap.size, 4, none⟩ = some (Value.slice a2 ys1.length c2) := (Lib.cell_of_heap Xa.out 4).trans rfl
  have fa4 : w3.frozen? ⟨w.heap.size, 4, none⟩ = false := Lib.frozen_of_heap Xa.out 4
  have ka5 : w3.cell? ⟨w.heap.size, 5, none⟩ = some (Value.int .i64 den2) := (Lib.cell_of_heap Xa.out 5).trans rfl
  have fa5 : w3.frozen? ⟨w.heap.size, 5, none⟩ = false := Lib.frozen_of_heap Xa.out 5
  have ka6 : w3.cell? ⟨w.heap.size, 6, none⟩ = some (Value.slice a3 ps2.length c3) := (Lib.cell_of_heap Xa.out 6).trans rfl
  have fa6 : w3.frozen? ⟨w.heap.size, 6, none⟩ = false := Lib.frozen_of_heap Xa.out 6
  have za : w.heap.size < w3.heap.size := hlt Xa.out
  by_cases d4 : L - (nm.size : Int) - (xs1.length : Int) - (ys1.length : Int) < (ps2.length : Int)
  · rw [if_pos d4]
    go_wp2
    go_ret
    exact ⟨ret_int (by rw [HZ.out]; unfold rleft; rw [if_pos (by omega)]), HB.out⟩
  rw [if_neg d4]
  go_wp2
  go_ret
  exact ⟨ret_int (by rw [HZ.out]; unfold rleft; rw [if_neg (by omega)]; omega), HB.out⟩

set_option maxHeartbeats 4000000 in
set_option maxRecDepth 20000 in
theorem szUnS (a : Option Addr) (n cap : Nat) (X : Nat → Prop) (rs : List (List Lf)) (L : Int) (w : World) (hs : RSeg w X 7 a n cap rs) (hsh : ∀ r ∈ rs, ShUn r) (h0 : 0 ≤ L) (h1 : L ≤ 1048576) :
    Calls Tryz.prog 21 #[.slice a n cap, .int .i64 L] w fun e w' => e = .returned (.int .i64 (rleft L (n + rtot rs))) ∧ Below w.heap.size w w' := by
  have hn : n ≤ 9223372036854775807 := hs.le
  have hcap := hs.2.1
  have hcm := hs.2.2.1
  have hxl := hs.1
  have HS := hide hs
  clear hs
  by_cases hL : L < n
  · have HZ : Hid (rleft L (n + rtot rs) = -1) := hide (by unfold rleft; rw [if_pos (by omega)])
    have h' : L - (n : Int) < 0 := by omega
    go_enter Tryz.func21, Tryz.ntmps21
    go_wp2
    go_ret
    exact ⟨ret_int HZ.out.symm, bl_refl w⟩
  have h' : ¬ L - (n : Int) < 0 := by omega
  go_enter Tryz.func21, Tryz.ntmps21
  go_wp2
  go_loopw [1, 5] (fun l i wr => ∃ (k : Nat) (q : Int), k ≤ n ∧ l = .int .i64 q ∧ i = .int .i64 k ∧ 0 ≤ q ∧ q ≤ 1048576 ∧ Hid (q = L - n - rtot (rs.take k)) ∧ Hid (Below w.heap.size w wr)) (fun _ i _ => n - (intOf i).toNat)
  case atStart => exact ⟨0, L - n, Nat.zero_le _, rfl, rfl, by omega, by omega, hide (by simp [rtot]), hide (bl_refl w)⟩
  case round =>
    obtain ⟨k, q, hk, rfl, rfl, hq0, hq1, hq, hb⟩ := hrel
    by_cases hlt : k < n
    · have hlt' : (k : Int) < (n : Int) := by omega
      have hkx : k < rs.length := by omega
      obtain ⟨g, o, rfl, hg, hrec⟩ := (HS.out.below hb.out).at hkx
      have hsz := HS.out.2.2.2.1 rs[k] (List.getElem_mem _)
      have E1 := hide (rtot_take rs k hkx)
      have E2 := hide (rtot_mono rs k hkx)
      obtain ⟨nm, n1, xs1, m1, ys1, den2, ps2, er⟩ := hsh rs[k] (List.getElem_mem _)
      rw [er] at hrec hsz E1 E2
      clear er
      have wn0 : nm.size ≤ 9223372036854775807 := hsz (.t nm) (by simp)
      clear hsz
      obtain ⟨a1, c1, a2, c2, a3, c3, t0, t1, t2, t3, t4, t5, t6, sg1, sg2, sg3, _⟩ := openUn hrec
      have H1 := hide sg1
      have H2 := hide sg2
      have H3 := hide sg3
      clear sg1 sg2 sg3
      go_wp2_with fail
      refine (szUn nm n1 xs1 m1 ys1 den2 ps2 a1 c1 a2 c2 a3 c3 q wr H1.out H2.out H3.out wn0 hq0 hq1).mono ?_
      rintro e w2 ⟨rfl, hb2⟩
      have hbb := hide (bl_trans hb.out hb2)
      clear hb2
      by_cases hq2 : q < (rsz [.t nm, .b n1, .l xs1, .b m1, .l ys1, .i den2, .p ps2] : Int)
      · have HE : Hid (rleft q (rsz [.t nm, .b n1, .l xs1, .b m1, .l ys1, .i den2, .p ps2]) = -1) := hide (by unfold rleft; rw [if_pos hq2])
        rw [HE.out]
        go_wp2
        go_ret
        exact ⟨ret_int (by have := hq.out; have := E2.out; unfold rleft; rw [if_pos (by omega)]), hbb.out⟩
      · have HE : Hid (rleft q (rsz [.t nm, .b n1, .l xs1, .b m1, .l ys1, .i den2, .p ps2]) = q - (rsz [.t nm, .b n1, .l xs1, .b m1, .l ys1, .i den2, .p ps2] : Int)) := hide (by unfold rleft; rw [if_neg hq2])
        rw [HE.out]
        generalize rsz [.t nm, .b n1, .l xs1, .b m1, .l ys1, .i den2, .p ps2] = z at *
        have hz0 : ¬ q - (z : Int) < 0 := by omega
        go_wp2
        exact ⟨⟨k + 1, q - z, by omega, rfl, by go_num, by omega, by omega, hide (by rw [E1.out]; have := hq.out; omega), hbb⟩, by simp [intOf]; omega⟩
    · obtain rfl : k = n := by omega
      go_wp2
      go_ret
      exact ⟨ret_int (by have := hq.out; rw [List.take_of_length_le (by omega)] at this; unfold rleft; rw [if_neg (by omega)]; omega), hb.out⟩


set_option maxHeartbeats 4000000 in
set_option maxRecDepth 20000 in
theorem toUn (nm : ByteArray) (n1 : Bool) (xs1 : List Nat) (m1 : Bool) (ys1 : List Nat) (den2 : Int) (ps2 : List Int) (a1 : Option Addr) (c1 : Nat) (a2 : Option Addr) (c2 : Nat) (a3 : Option Addr) (c3 : Nat) (w : World) (s1 : Seg w a1 xs1.length c1 xs1) (s2 : Seg w a2 ys1.length c2 ys1) (s3 : V.Seg w a3 ps2.length c3 ps2) (h1 : xs1.length ≤ 1048576) (h2 : ys1.length ≤ 1048576) (h3 : ps2.length ≤ 1048576) :
    Calls Tryz.prog 52 #[Value.agg #[Value.string nm, Value.bool n1, Value.slice a1 xs1.length c1, Value.bool m1, Value.slice a2 ys1.length c2, Value.int .i64 den2, Value.slice a3 ps2.length c3]] w fun e w' => ∃ b1 d1 b2 d2 b3 d3, e = .returned (Value.agg #[Value.string nm, Value.bool n1, Value.slice b1 xs1.length d1, Value.bool m1, Value.slice b2 ys1.length d2, Value.int .i64 den2, Value.slice b3 ps2.length d3]) ∧ Own w' w.heap.size b1 xs1.length d1 xs1 ∧ Own w' w.heap.size b2 ys1.length d2 ys1 ∧ V.Own w' w.heap.size b3 ps2.length d3 ps2 ∧ Below w.heap.size w w' := by
  have S1 := hide s1
  have S2 := hide s2
  have S3 := hide s3
  clear s1 s2 s3
  have Xa : Hid ((((w.alloc (Obj.cells #[Value.string nm, Value.bool n1, Value.slice a1 xs1.length c1, Value.bool m1, Value.slice a2 ys1.length c2, Value.int .i64 den2, Value.slice a3 ps2.length c3] 93)).alloc (Obj.cells #[Value.string ⟨#[]⟩, Value.bool false, Value.slice none 0 0, Value.bool false, Value.slice none 0 0, Value.int .i64 0, Value.slice none 0 0] 59)).alloc (Obj.cells #[Value.string nm, Value.bool false, Value.slice none 0 0, Value.bool false, Value.slice none 0 0, Value.int .i64 0, Value.slice none 0 0] 59)).heap[w.heap.size]? = some (.cells #[Value.string nm, Value.bool n1, Value.slice a1 xs1.length c1, Value.bool m1, Value.slice a2 ys1.length c2, Value.int .i64 den2, Value.slice a3 ps2.length c3] 93 (0, 0))) := hide (by simpa only [World.size_alloc] using (hnewer (hnewer (hnew w (Obj.cells #[Value.string nm, Value.bool n1, Value.slice a1 xs1.length c1, Value.bool m1, Value.slice a2 ys1.length c2, Value.int .i64 den2, Value.slice a3 ps2.length c3] 93)) (Obj.cells #[Value.string ⟨#[]⟩, Value.bool false, Value.slice none 0 0, Value.bool false, Value.slice none 0 0, Value.int .i64 0, Value.slice none 0 0] 59)) (Obj.cells #[Value.string nm, Value.bool false, Value.slice none 0 0, Value.bool false, Value.slice none 0 0, Value.int .i64 0, Value.slice none 0 0] 59)))
  have Xr : Hid ((((w.alloc (Obj.cells #[Value.string nm, Value.bool n1, Value.slice a1 xs1.length c1, Value.bool m1, Value.slice a2 ys1.length c2, Value.int .i64 den2, Value.slice a3 ps2.length c3] 93)).alloc (Obj.cells #[Value.string ⟨#[]⟩, Value.bool false, Value.slice none 0 0, Value.bool false, Value.slice none 0 0, Value.int .i64 0, Value.slice none 0 0] 59)).alloc (Obj.cells #[Value.string nm, Value.bool false, Value.slice none 0 0, Value.bool false, Value.slice none 0 0, Value.int .i64 0, Value.slice none 0 0] 59)).heap[w.heap.size + 1]? = some (.cells #[Value.string ⟨#[]⟩, Value.bool false, Value.slice none 0 0, Value.bool false, Value.slice none 0 0, Value.int .i64 0, Value.slice none 0 0] 59 (0, 0))) := hide (by simpa only [World.size_alloc] using (hnewer (hnew (w.alloc (Obj.cells #[Value.string nm, Value.bool n1, Value.slice a1 xs1.length c1, Value.bool m1, Value.slice a2 ys1.length c2, Value.int .i64 den2, Value.slice a3 ps2.length c3] 93)) (Obj.cells #[Value.string ⟨#[]⟩, Value.bool false, Value.slice none 0 0, Value.bool false, Value.slice none 0 0, Value.int .i64 0, Value.slice none 0 0] 59)) (Obj.cells #[Value.string nm, Value.bool false, Value.slice none 0 0, Value.bool false, Value.slice none 0 0, Value.int .i64 0, Value.slice none 0 0] 59)))
  have Xo : Hid ((((w.alloc (Obj.cells #[Value.string nm, Value.bool n1, Value.slice a1 xs1.length c1, Value.bool m1, Value.slice a2 ys1.length c2, Value.int .i64 den2, Value.slice a3 ps2.length c3] 93)).alloc (Obj.cells #[Value.string ⟨#[]⟩, Value.bool false, Value.slice none 0 0, Value.bool false, Value.slice none 0 0, Value.int .i64 0, Value.slice none 0 0] 59)).alloc (Obj.cells #[Value.string nm, Value.bool false, Value.slice none 0 0, Value.bool false, Value.slice none 0 0, Value.int .i64 0, Value.slice none 0 0] 59)).heap[w.heap.size + 1 + 1]? = some (.cells #[Value.string nm, Value.bool false, Value.slice none 0 0, Value.bool false, Value.slice none 0 0, Value.int .i64 0, Value.slice none 0 0] 59 (0, 0))) := hide (by simpa only [World.size_alloc] using (hnew ((w.alloc (Obj.cells #[Value.string nm, Value.bool n1, Value.slice a1 xs1.length c1, Value.bool m1, Value.slice a2 ys1.length c2, Value.int .i64 den2, Value.slice a3 ps2.length c3] 93)).alloc (Obj.cells #[Value.string ⟨#[]⟩, Value.bool false, Value.slice none 0 0, Value.bool false, Value.slice none 0 0, Value.int .i64 0, Value.slice none 0 0] 59)) (Obj.cells #[Value.string nm, Value.bool false, Value.slice none 0 0, Value.bool false, Value.slice none 0 0, Value.int .i64 0, Value.slice none 0 0] 59)))
  have HB : Hid (Below w.heap.size w (((w.alloc (Obj.cells #[Value.string nm, Value.bool n1, Value.slice a1 xs1.length c1, Value.bool m1, Value.slice a2 ys1.length c2, Value.int .i64 den2, Value.slice a3 ps2.length c3] 93)).alloc (Obj.cells #[Value.string ⟨#[]⟩, Value.bool false, Value.slice none 0 0, Value.bool false, Value.slice none 0 0, Value.int .i64 0, Value.slice none 0 0] 59)).alloc (Obj.cells #[Value.string nm, Value.bool false, Value.slice none 0 0, Value.bool false, Value.slice none 0 0, Value.int .i64 0, Value.slice none 0 0] 59))) := hide (bl_alloc (bl_alloc (bl_alloc (bl_refl w) (Obj.cells #[Value.string nm, Value.bool n1, Value.slice a1 xs1.length c1, Value.bool m1, Value.slice a2 ys1.length c2, Value.int .i64 den2, Value.slice a3 ps2.length c3] 93)) (Obj.cells #[Value.string ⟨#[]⟩, Value.bool false, Value.slice none 0 0, Value.bool false, Value.slice none 0 0, Value.int .i64 0, Value.slice none 0 0] 59)) (Obj.cells #[Value.string nm, Value.bool false, Value.slice none 0 0, Value.bool false, Value.slice none 0 0, Value.int .i64 0, Value.slice none 0 0] 59))
  have yw1 : w.heap.size + 3 ≤ (((w.alloc (Obj.cells #[Value.string nm, Value.bool n1, Value.slice a1 xs1.length c1, Value.bool m1, Value.slice a2 ys1.length c2, Value.int .i64 den2, Value.slice a3 ps2.length c3] 93)).alloc (Obj.cells #[Value.string ⟨#[]⟩, Value.bool false, Value.slice none 0 0, Value.bool false, Value.slice none 0 0, Value.int .i64 0, Value.slice none 0 0] 59)).alloc (Obj.cells #[Value.string nm, Value.bool false, Value.slice none 0 0, Value.bool false, Value.slice none 0 0, Value.int .i64 0, Value.slice none 0 0] 59)).heap.size := by simp only [World.size_alloc]; omega
  have ka0 : (((w.alloc (Obj.cells #[Value.string nm, Value.bool n1, Value.slice a1 xs1.length c1, Value.bool m1, Value.slice a2 ys1.length c2, Value.int .i64 den2, Value.slice a3 ps2.length c3] 93)).alloc (Obj.cells #[Value.string ⟨#[]⟩, Value.bool false, Value.slice none 0 0, Value.bool false, Value.slice none 0 0, Value.int .i64 0, Value.slice none 0 0] 59)).alloc (Obj.cells #[Value.string nm, Value.bool false, Value.slice none 0 0, Value.bool false, Value.slice none 0 0, Value.int .i64 0, Value.slice none 0 0] 59)).cell? ⟨w.heap.size, 0, none⟩ = some (Value.string nm) := (Lib.cell_of_heap Xa.out 0).trans rfl
  have fa0 : (((w.alloc (Obj.cells #[Value.string nm, Value.bool n1, Value.slice a1 xs1.length c1, Value.bool m1, Value.slice a2 ys1.length c2, Value.int .i64 den2, Value.slice a3 ps2.length c3] 93)).alloc (Obj.cells #[Value.string ⟨#[]⟩, Value.bool false, Value.slice none 0 0, Value.bool false, Value.slice none 0 0, Value.int .i64 0, Value.slice none 0 0] 59)).alloc (Obj.cells #[Value.string nm, Value.bool false, Value.slice none 0 0, Value.bool false, Value.slice none 0 0, Value.int .i64 0, Value.slice none 0 0] 59)).frozen? ⟨w.heap.size, 0, none⟩ = false := Lib.frozen_of_heap Xa.out 0
  have ka1 : (((w.alloc (Obj.cells #[Value.string nm, Value.bool n1, Value.slice a1 xs1.length c1, Value.bool m1, Value.slice a2 ys1.length c2, Value.int .i64 den2, Value.slice a3 ps2.length c3] 93)).alloc (Obj.cells #[Value.string ⟨#[]⟩, Value.bool false, Value.slice none 0 0, Value.bool false, Value.slice none 0 0, Value.int .i64 0, Value.slice none 0 0] 59)).alloc (Obj.cells #[Value.string nm, Value.bool false, Value.slice none 0 0, Value.bool false, Value.slice none 0 0, Value.int .i64 0, Value.slice none 0 0] 59)).cell? ⟨w.heap.size, 1, none⟩ = some (Value.bool n1) := (Lib.cell_of_heap Xa.out 1).trans rfl
  have fa1 : (((w.alloc (Obj.cells #[Value.string nm, Value.bool n1, Value.slice a1 xs1.length c1, Value.bool m1, Value.slice a2 ys1.length c2, Value.int .i64 den2, Value.slice a3 ps2.length c3] 93)).alloc (Obj.cells #[Value.string ⟨#[]⟩, Value.bool false, Value.slice none 0 0, Value.bool false, Value.slice none 0 0, Value.int .i64 0, Value.slice none 0 0] 59)).alloc (Obj.cells #[Value.string nm, Value.bool false, Value.slice none 0 0, Value.bool false, Value.slice none 0 0, Value.int .i64 0, Value.slice none 0 0] 59)).frozen? ⟨w.heap.size, 1, none⟩ = false := Lib.frozen_of_heap Xa.out 1
  have ka2 : (((w.alloc (Obj.cells #[Value.string nm, Value.bool n1, Value.slice a1 xs1.length c1, Value.bool m1, Value.slice a2 ys1.length c2, Value.int .i64 den2, Value.slice a3 ps2.length c3] 93)).alloc (Obj.cells #[Value.string ⟨#[]⟩, Value.bool false, Value.slice none 0 0, Value.bool false, Value.slice none 0 0, Value.int .i64 0, Value.slice none 0 0] 59)).alloc (Obj.cells #[Value.string nm, Value.bool false, Value.slice none 0 0, Value.bool false, Value.slice none 0 0, Value.int .i64 0, Value.slice none 0 0] 59)).cell? ⟨w.heap.size, 2, none⟩ = some (Value.slice a1 xs1.length c1) := (Lib.cell_of_heap Xa.out 2).trans rfl
  have fa2 : (((w.alloc (Obj.cells #[Value.string nm, Value.bool n1, Value.slice a1 xs1.length c1, Value.bool m1, Value.slice a2 ys1.length c2, Value.int .i64 den2, Value.slice a3 ps2.length c3] 93)).alloc (Obj.cells #[Value.string ⟨#[]⟩, Value.bool false, Value.slice none 0 0, Value.bool false, Value.slice none 0 0, Value.int .i64 0, Value.slice none 0 0] 59)).alloc (Obj.cells #[Value.string nm, Value.bool false, Value.slice none 0 0, Value.bool false, Value.slice none 0 0, Value.int .i64 0, Value.slice none 0 0] 59)).frozen? ⟨w.heap.size, 2, none⟩ = false := Lib.frozen_of_heap Xa.out 2
  have ka3 : (((w.alloc (Obj.cells #[Value.string nm, Value.bool n1, Value.slice a1 xs1.length c1, Value.bool m1, Value.slice a2 ys1.length c2, Value.int .i64 den2, Value.slice a3 ps2.length c3] 93)).alloc (Obj.cells #[Value.string ⟨#[]⟩, Value.bool false, Value.slice none 0 0, Value.bool false, Value.slice none 0 0, Value.int .i64 0, Value.slice none 0 0] 59)).alloc (Obj.cells #[Value.string nm, Value.bool false, Value.slice none 0 0, Value.bool false, Value.slice none 0 0, Value.int .i64 0, Value.slice none 0 0] 59)).cell? ⟨w.heap.size, 3, none⟩ = some (Value.bool m1) := (Lib.cell_of_heap Xa.out 3).trans rfl
  have fa3 : (((w.alloc (Obj.cells #[Value.string nm, Value.bool n1, Value.slice a1 xs1.length c1, Value.bool m1, Value.slice a2 ys1.length c2, Value.int .i64 den2, Value.slice a3 ps2.length c3] 93)).alloc (Obj.cells #[Value.string ⟨#[]⟩, Value.bool false, Value.slice none 0 0, Value.bool false, Value.slice none 0 0, Value.int .i64 0, Value.slice none 0 0] 59)).alloc (Obj.cells #[Value.string nm, Value.bool false, Value.slice none 0 0, Value.bool false, Value.slice none 0 0, Value.int .i64 0, Value.slice none 0 0] 59)).frozen? ⟨w.heap.size, 3, none⟩ = false := Lib.frozen_of_heap Xa.out 3
  have ka4 : (((w.alloc (Obj.cells #[Value.string nm, Value.bool n1, Value.slice a1 xs1.length c1, Value.bool m1, Value.slice a2 ys1.length c2, Value.int .i64 den2, Value.slice a3 ps2.length c3] 93)).alloc (Obj.cells #[Value.string ⟨#[]⟩, Value.bool false, Value.slice none 0 0, Value.bool false, Value.slice none 0 0, Value.int .i64 0, Value.slice none 0 0] 59)).alloc (Obj.cells #[Value.string nm, Value.bool false, Value.slice none 0 0, Value.bool false, Value.slice none 0 0, Value.int .i64 0, Value.slice none 0 0] 59)).cell? ⟨w.heap.size, 4, none⟩ = some (Value.slice a2 ys1.length c2) := (Lib.cell_of_heap Xa.out 4).trans rfl
  have fa4 : (((w.alloc (Obj.cells #[Value.string nm, Value.bool n1, Value.slice a1 xs1.length c1, Value.bool m1, Value.slice a2 ys1.length c2, Value.int .i64 den2, Value.slice a3 ps2.length c3] 93)).alloc (Obj.cells #[Value.string ⟨#[]⟩, Value.bool false, Value.slice none 0 0, Value.bool false, Value.slice none 0 0, Value.int .i64 0, Value.slice none 0 0] 59)).alloc (Obj.cells #[Value.string nm, Value.bool false, Value.slice none 0 0, Value.bool false, Value.slice none 0 0, Value.int .i64 0, Value.slice none 0 0] 59)).frozen? ⟨w.heap.size, 4, none⟩ = false := Lib.frozen_of_heap Xa.out 4
  have ka5 : (((w.alloc (Obj.cells #[Value.string nm, Value.bool n1, Value.slice a1 xs1.length c1, Value.bool m1, Value.slice a2 ys1.length c2, Value.int .i64 den2, Value.slice a3 ps2.length c3] 93)).alloc (Obj.cells #[Value.string ⟨#[]⟩, Value.bool false, Value.slice none 0 0, Value.bool false, Value.slice none 0 0, Value.int .i64 0, Value.slice none 0 0] 59)).alloc (Obj.cells #[Value.string nm, Value.bool false, Value.slice none 0 0, Value.bool false, Value.slice none 0 0, Value.int .i64 0, Value.slice none 0 0] 59)).cell? ⟨w.heap.size, 5, none⟩ = some (Value.int .i64 den2) := (Lib.cell_of_heap Xa.out 5).trans rfl
  have fa5 : (((w.alloc (Obj.cells #[Value.string nm, Value.bool n1, Value.slice a1 xs1.length c1, Value.bool m1, Value.slice a2 ys1.length c2, Value.int .i64 den2, Value.slice a3 ps2.length c3] 93)).alloc (Obj.cells #[Value.string ⟨#[]⟩, Value.bool false, Value.slice none 0 0, Value.bool false, Value.slice none 0 0, Value.int .i64 0, Value.slice none 0 0] 59)).alloc (Obj.cells #[Value.string nm, Value.bool false, Value.slice none 0 0, Value.bool false, Value.slice none 0 0, Value.int .i64 0, Value.slice none 0 0] 59)).frozen? ⟨w.heap.size, 5, none⟩ = false := Lib.frozen_of_heap Xa.out 5
  have ka6 : (((w.alloc (Obj.cells #[Value.string nm, Value.bool n1, Value.slice a1 xs1.length c1, Value.bool m1, Value.slice a2 ys1.length c2, Value.int .i64 den2, Value.slice a3 ps2.length c3] 93)).alloc (Obj.cells #[Value.string ⟨#[]⟩, Value.bool false, Value.slice none 0 0, Value.bool false, Value.slice none 0 0, Value.int .i64 0, Value.slice none 0 0] 59)).alloc (Obj.cells #[Value.string nm, Value.bool false, Value.slice none 0 0, Value.bool false, Value.slice none 0 0, Value.int .i64 0, Value.slice none 0 0] 59)).cell? ⟨w.heap.size, 6, none⟩ = some (Value.slice a3 ps2.length c3) := (Lib.cell_of_heap Xa.out 6).trans rfl
  have fa6 : (((w.alloc (Obj.cells #[Value.string nm, Value.bool n1, Value.slice a1 xs1.length c1, Value.bool m1, Value.slice a2 ys1.length c2, Value.int .i64 den2, Value.slice a3 ps2.length c3] 93)).alloc (Obj.cells #[Value.string ⟨#[]⟩, Value.bool false, Value.slice none 0 0, Value.bool false, Value.slice none 0 0, Value.int .i64 0, Value.slice none 0 0] 59)).alloc (Obj.cells #[Value.string nm, Value.bool false, Value.slice none 0 0, Value.bool false, Value.slice none 0 0, Value.int .i64 0, Value.slice none 0 0] 59)).frozen? ⟨w.heap.size, 6, none⟩ = false := Lib.frozen_of_heap Xa.out 6
  have za : w.heap.size < (((w.alloc (Obj.cells #[Value.string nm, Value.bool n1, Value.slice a1 xs1.length c1, Value.bool m1, Value.slice a2 ys1.length c2, Value.int .i64 den2, Value.slice a3 ps2.length c3] 93)).alloc (Obj.cells #[Value.string ⟨#[]⟩, Value.bool false, Value.slice none 0 0, Value.bool false, Value.slice none 0 0, Value.int .i64 0, Value.slice none 0 0] 59)).alloc (Obj.cells #[Value.string nm, Value.bool false, Value.slice none 0 0, Value.bool false, Value.slice none 0 0, Value.int .i64 0, Value.slice none 0 0] 59)).heap.size := hlt Xa.out
  have kr0 : (((w.alloc (Obj.cells #[Value.string nm, Value.bool n1, Value.slice a1 xs1.length c1, Value.bool m1, Value.slice a2 ys1.length c2, Value.int .i64 den2, Value.slice a3 ps2.length c3] 93)).alloc (Obj.cells #[Value.string ⟨#[]⟩, Value.bool false, Value.slice none 0 0, Value.bool false, Value.slice none 0 0, Value.int .i64 0, Value.slice none 0 0] 59)).alloc (Obj.cells #[Value.string nm, Value.bool false, Value.slice none 0 0, Value.bool false, Value.slice none 0 0, Value.int .i64 0, Value.slice none 0 0] 59)).cell? ⟨w.heap.size + 1, 0, none⟩ = some (Value.string ⟨#[]⟩) := (Lib.cell_of_heap Xr.out 0).trans rfl
  have fr0 : (((w.alloc (Obj.cells #[Value.string nm, Value.bool n1, Value.slice a1 xs1.length c1, Value.bool m1, Value.slice a2 ys1.length c2, Value.int .i64 den2, Value.slice a3 ps2.length c3] 93)).alloc (Obj.cells #[Value.string ⟨#[]⟩, Value.bool false, Value.slice none 0 0, Value.bool false, Value.slice none 0 0, Value.int .i64 0, Value.slice none 0 0] 59)).alloc (Obj.cells #[Value.string nm, Value.bool false, Value.slice none 0 0, Value.bool false, Value.slice none 0 0, Value.int .i64 0, Value.slice none 0 0] 59)).frozen? ⟨w.heap.size + 1, 0, none⟩ = false := Lib.frozen_of_heap Xr.out 0
  have kr1 : (((w.alloc (Obj.cells #[Value.string nm, Value.bool n1, Value.slice a1 xs1.length c1, Value.bool m1, Value.slice a2 ys1.length c2, Value.int .i64 den2, Value.slice a3 ps2.length c3] 93)).alloc (Obj.cells #[Value.string ⟨#[]⟩, Value.bool false, Value.slice none 0 0, Value.bool false, Value.slice none 0 0, Value.int .i64 0, Value.slice none 0 0] 59)).alloc (Obj.cells #[Value.string nm, Value.bool false, Value.slice none 0 0, Value.bool false, Value.slice none 0 0, Value.int .i64 0, Value.slice none 0 0] 59)).cell? ⟨w.heap.size + 1, 1, none⟩ = some (Value.bool false) := (Lib.cell_of_heap Xr.out 1).trans rfl
  have fr1 : (((w.alloc (Obj.cells #[Value.string nm, Value.bool n1, Value.slice a1 xs1.length c1, Value.bool m1, Value.slice a2 ys1.length c2, Value.int .i64 den2, Value.slice a3 ps2.length c3] 93)).alloc (Obj.cells #[Value.string ⟨#[]⟩, Value.bool false, Value.slice none 0 0, Value.bool false, Value.slice none 0 0, Value.int .i64 0, Value.slice none 0 0] 59)).alloc (Obj.cells #[Value.string nm, Value.bool false, Value.slice none 0 0, Value.bool false, Value.slice none 0 0, Value.int .i64 0, Value.slice none 0 0] 59)).frozen? ⟨w.heap.size + 1, 1, none⟩ = false := Lib.frozen_of_heap Xr.out 1
  have kr2 : (((w.alloc (Obj.cells #[Value.string nm, Value.bool n1, Value.slice a1 xs1.length c1, Value.bool m1, Value.slice a2 ys1.length c2, Value.int .i64 den2, Value.slice a3 ps2.length c3] 93)).alloc (Obj.cells #[Value.string ⟨#[]⟩, Value.bool false, Value.slice none 0 0, Value.bool false, Value.slice none 0 0, Value.int .i64 0, Value.slice none 0 0] 59)).alloc (Obj.cells #[Value.string nm, Value.bool false, Value.slice none 0 0, Value.bool false, Value.slice none 0 0, Value.int .i64 0, Value.slice none 0 0] 59)).cell? ⟨w.heap.size + 1, 2, none⟩ = some (Value.slice none 0 0) := (Lib.cell_of_heap Xr.out 2).trans rfl
  have fr2 : (((w.alloc (Obj.cells #[Value.string nm, Value.bool n1, Value.slice a1 xs1.length c1, Value.bool m1, Value.slice a2 ys1.length c2, Value.int .i64 den2, Value.slice a3 ps2.length c3] 93)).alloc (Obj.cells #[Value.string ⟨#[]⟩, Value.bool false, Value.slice none 0 0, Value.bool false, Value.slice none 0 0, Value.int .i64 0, Value.slice none 0 0] 59)).alloc (Obj.cells #[Value.string nm, Value.bool false, Value.slice none 0 0, Value.bool false, Value.slice none 0 0, Value.int .i64 0, Value.slice none 0 0] 59)).frozen? ⟨w.heap.size + 1, 2, none⟩ = false := Lib.frozen_of_heap Xr.out 2
  have kr3 : (((w.alloc (Obj.cells #[Value.string nm, Value.bool n1, Value.slice a1 xs1.length c1, Value.bool m1, Value.slice a2 ys1.length c2, Value.int .i64 den2, Value.slice a3 ps2.length c3] 93)).alloc (Obj.cells #[Value.string ⟨#[]⟩, Value.bool false, Value.slice none 0 0, Value.bool false, Value.slice none 0 0, Value.int .i64 0, Value.slice none 0 0] 59)).alloc (Obj.cells #[Value.string nm, Value.bool false, Value.slice none 0 0, Value.bool false, Value.slice none 0 0, Value.int .i64 0, Value.slice none 0 0] 59)).cell? ⟨w.heap.size + 1, 3, none⟩ = some (Value.bool false) := (Lib.cell_of_heap Xr.out 3).trans rfl
  have fr3 : (((w.alloc (Obj.cells #[Value.string nm, Value.bool n1, Value.slice a1 xs1.length c1, Value.bool m1, Value.slice a2 ys1.length c2, Value.int .i64 den2, Value.slice a3 ps2.length c3] 93)).alloc (Obj.cells #[Value.string ⟨#[]⟩, Value.bool false, Value.slice none 0 0, Value.bool false, Value.slice none 0 0, Value.int .i64 0, Value.slice none 0 0] 59)).alloc (Obj.cells #[Value.string nm, Value.bool false, Value.slice none 0 0, Value.bool false, Value.slice none 0 0, Value.int .i64 0, Value.slice none 0 0] 59)).frozen? ⟨w.heap.size + 1, 3, none⟩ = false := Lib.frozen_of_heap Xr.out 3
  have kr4 : (((w.alloc (Obj.cells #[Value.string nm, Value.bool n1, Value.slice a1 xs1.length c1, Value.bool m1, Value.slice a2 ys1.length c2, Value.int .i64 den2, Value.slice a3 ps2.length c3] 93)).alloc (Obj.cells #[Value.string ⟨#[]⟩, Value.bool false, Value.slice none 0 0, Value.bool false, Value.slice none 0 0, Value.int .i64 0, Value.slice none 0 0] 59)).alloc (Obj.cells #[Value.string nm, Value.bool false, Value.slice none 0 0, Value.bool false, Value.slice none 0 0, Value.int .i64 0, Value.slice none 0 0] 59)).cell? ⟨w.heap.size + 1, 4, none⟩ = some (Value.slice none 0 0) := (Lib.cell_of_heap Xr.out 4).trans rfl
  have fr4 : (((w.alloc (Obj.cells #[Value.string nm, Value.bool n1, Value.slice a1 xs1.length c1, Value.bool m1, Value.slice a2 ys1.length c2, Value.int .i64 den2, Value.slice a3 ps2.length c3] 93)).alloc (Obj.cells #[Value.string ⟨#[]⟩, Value.bool false, Value.slice none 0 0, Value.bool false, Value.slice none 0 0, Value.int .i64 0, Value.slice none 0 0] 59)).alloc (Obj.cells #[Value.string nm, Value.bool false, Value.slice none 0 0, Value.bool false, Value.slice none 0 0, Value.int .i64 0, Value.slice none 0 0] 59)).frozen? ⟨w.heap.size + 1, 4, none⟩ = false := Lib.frozen_of_heap Xr.out 4
  have kr5 : (((w.alloc (Obj.cells #[Value.string nm, Value.bool n1, Value.slice a1 xs1.length c1, Value.bool m1, Value.slice a2 ys1.length c2, Value.int .i64 den2, Value.slice a3 ps2.length c3] 93)).alloc (Obj.cells #[Value.string ⟨#[]⟩, Value.bool false, Value.slice none 0 0, Value.bool false, Value.slice none 0 0, Value.int .i64 0, Value.slice none 0 0] 59)).alloc (Obj.cells #[Value.string nm, Value.bool false, Value.slice none 0 0, Value.bool false, Value.slice none 0 0, Value.int .i64 0, Value.slice none 0 0] 59)).cell? ⟨w.heap.size + 1, 5, none⟩ = some (Value.int .i64 0) := (Lib.cell_of_heap Xr.out 5).trans rfl
  have fr5 : (((w.alloc (Obj.cells #[Value.string nm, Value.bool n1, Value.slice a1 xs1.length c1, Value.bool m1, Value.slice a2 ys1.length c2, Value.int .i64 den2, Value.slice a3 ps2.length c3] 93)).alloc (Obj.cells #[Value.string ⟨#[]⟩, Value.bool false, Value.slice none 0 0, Value.bool false, Value.slice none 0 0, Value.int .i64 0, Value.slice none 0 0] 59)).alloc (Obj.cells #[Value.string nm, Value.bool false, Value.slice none 0 0, Value.bool false, Value.slice none 0 0, Value.int .i64 0, Value.slice none 0 0] 59)).frozen? ⟨w.heap.size + 1, 5, none⟩ = false := Lib.frozen_of_heap Xr.out 5
  have kr6 : (((w.alloc (Obj.cells #[Value.string nm, Value.bool n1, Value.slice a1 xs1.length c1, Value.bool m1, Value.slice a2 ys1.length c2, Value.int .i64 den2, Value.slice a3 ps2.length c3] 93)).alloc (Obj.cells #[Value.string ⟨#[]⟩, Value.bool false, Value.slice none 0 0, Value.bool false, Value.slice none 0 0, Value.int .i64 0, Value.slice none 0 0] 59)).alloc (Obj.cells #[Value.string nm, Value.bool false, Value.slice none 0 0, Value.bool false, Value.slice none 0 0, Value.int .i64 0, Value.slice none 0 0] 59)).cell? ⟨w.heap.size + 1, 6, none⟩ = some (Value.slice none 0 0) := (Lib.cell_of_heap Xr.out 6).trans rfl
  have fr6 : (((w.alloc (Obj.cells #[Value.string nm, Value.bool n1, Value.slice a1 xs1.length c1, Value.bool m1, Value.slice a2 ys1.length c2, Value.int .i64 den2, Value.slice a3 ps2.length c3] 93)).alloc (Obj.cells #[Value.string ⟨#[]⟩, Value.bool false, Value.slice none 0 0, Value.bool false, Value.slice none 0 0, Value.int .i64 0, Value.slice none 0 0] 59)).alloc (Obj.cells #[Value.string nm, Value.bool false, Value.slice none 0 0, Value.bool false, Value.slice none 0 0, Value.int .i64 0, Value.slice none 0 0] 59)).frozen? ⟨w.heap.size + 1, 6, none⟩ = false := Lib.frozen_of_heap Xr.out 6
  have zr : w.heap.size + 1 < (((w.alloc (Obj.cells #[Value.string nm, Value.bool n1, Value.slice a1 xs1.length c1, Value.bool m1, Value.slice a2 ys1.length c2, Value.int .i64 den2, Value.slice a3 ps2.length c3] 93)).alloc (Obj.cells #[Value.string ⟨#[]⟩, Value.bool false, Value.slice none 0 0, Value.bool false, Value.slice none 0 0, Value.int .i64 0, Value.slice none 0 0] 59)).alloc (Obj.cells #[Value.string nm, Value.bool false, Value.slice none 0 0, Value.bool false, Value.slice none 0 0, Value.int .i64 0, Value.slice none 0 0] 59)).heap.size := hlt Xr.out
  have ko0 : (((w.alloc (Obj.cells #[Value.string nm, Value.bool n1, Value.slice a1 xs1.length c1, Value.bool m1, Value.slice a2 ys1.length c2, Value.int .i64 den2, Value.slice a3 ps2.length c3] 93)).alloc (Obj.cells #[Value.string ⟨#[]⟩, Value.bool false, Value.slice none 0 0, Value.bool false, Value.slice none 0 0, Value.int .i64 0, Value.slice none 0 0] 59)).alloc (Obj.cells #[Value.string nm, Value.bool false, Value.slice none 0 0, Value.bool false, Value.slice none 0 0, Value.int .i64 0, Value.slice none 0 0] 59)).cell? ⟨w.heap.size + 1 + 1, 0, none⟩ = some (Value.string nm) := (Lib.cell_of_heap Xo.out 0).trans rfl
  have fo0 : (((w.alloc (Obj.cells #[Value.string nm, Value.bool n1, Value.slice a1 xs1.length c1, Value.bool m1, Value.slice a2 ys1.length c2, Value.int .i64 den2, Value.slice a3 ps2.length c3] 93)).alloc (Obj.cells #[Value.string ⟨#[]⟩, Value.bool false, Value.slice none 0 0, Value.bool false, Value.slice none 0 0, Value.int .i64 0, Value.slice none 0 0] 59)).alloc (Obj.cells #[Value.string nm, Value.bool false, Value.slice none 0 0, Value.bool false, Value.slice none 0 0, Value.int .i64 0, Value.slice none 0 0] 59)).frozen? ⟨w.heap.size + 1 + 1, 0, none⟩ = false := Lib.frozen_of_heap Xo.out 0
  have ko1 : (((w.alloc (Obj.cells #[Value.string nm, Value.bool n1, Value.slice a1 xs1.length c1, Value.bool m1, Value.slice a2 ys1.length c2, Value.int .i64 den2, Value.slice a3 ps2.length c3] 93)).alloc (Obj.cells #[Value.string ⟨#[]⟩, Value.bool false, Value.slice none 0 0, Value.bool false, Value.slice none 0 0, Value.int .i64 0, Value.slice none 0 0] 59)).alloc (Obj.cells #[Value.string nm, Value.bool false, Value.slice none 0 0, Value.bool false, Value.slice none 0 0, Value.int .i64 0, Value.slice none 0 0] 59)).cell? ⟨w.heap.size + 1 + 1, 1, none⟩ = some (Value.bool false) := (Lib.cell_of_heap Xo.out 1).trans rfl
  have fo1 : (((w.alloc (Obj.cells #[Value.string nm, Value.bool n1, Value.slice a1 xs1.length c1, Value.bool m1, Value.slice a2 ys1.length c2, Value.int .i64 den2, Value.slice a3 ps2.length c3] 93)).alloc (Obj.cells #[Value.string ⟨#[]⟩, Value.bool false, Value.slice none 0 0, Value.bool false, Value.slice none 0 0, Value.int .i64 0, Value.slice none 0 0] 59)).alloc (Obj.cells #[Value.string nm, Value.bool false, Value.slice none 0 0, Value.bool false, Value.slice none 0 0, Value.int .i64 0, Value.slice none 0 0] 59)).frozen? ⟨w.heap.size + 1 + 1, 1, none⟩ = false := Lib.frozen_of_heap Xo.out 1
  have ko2 : (((w.alloc (Obj.cells #[Value.string nm, Value.bool n1, Value.slice a1 xs1.length c1, Value.bool m1, Value.slice a2 ys1.length c2, Value.int .i64 den2, Value.slice a3 ps2.length c3] 93)).alloc (Obj.cells #[Value.string ⟨#[]⟩, Value.bool false, Value.slice none 0 0, Value.bool false, Value.slice none 0 0, Value.int .i64 0, Value.slice none 0 0] 59)).alloc (Obj.cells #[Value.string nm, Value.bool false, Value.slice none 0 0, Value.bool false, Value.slice none 0 0, Value.int .i64 0, Value.slice none 0 0] 59)).cell? ⟨w.heap.size + 1 + 1, 2, none⟩ = some (Value.slice none 0 0) := (Lib.cell_of_heap Xo.out 2).trans rfl
  have fo2 : (((w.alloc (Obj.cells #[Value.string nm, Value.bool n1, Value.slice a1 xs1.length c1, Value.bool m1, Value.slice a2 ys1.length c2, Value.int .i64 den2, Value.slice a3 ps2.length c3] 93)).alloc (Obj.cells #[Value.string ⟨#[]⟩, Value.bool false, Value.slice none 0 0, Value.bool false, Value.slice none 0 0, Value.int .i64 0, Value.slice none 0 0] 59)).alloc (Obj.cells #[Value.string nm, Value.bool false, Value.slice none 0 0, Value.bool false, Value.slice none 0 0, Value.int .i64 0, Value.slice none 0 0] 59)).frozen? ⟨w.heap.size + 1 + 1, 2, none⟩ = false := Lib.frozen_of_heap Xo.out 2
  have ko3 : (((w.alloc (Obj.cells #[Value.string nm, Value.bool n1, Value.slice a1 xs1.length c1, Value.bool m1, Value.slice a2 ys1.length c2, Value.int .i64 den2, Value.slice a3 ps2.length c3] 93)).alloc (Obj.cells #[Value.string ⟨#[]⟩, Value.bool false, Value.slice none 0 0, Value.bool false, Value.slice none 0 0, Value.int .i64 0, Value.slice none 0 0] 59)).alloc (Obj.cells #[Value.string nm, Value.bool false, Value.slice none 0 0, Value.bool false, Value.slice none 0 0, Value.int .i64 0, Value.slice none 0 0] 59)).cell? ⟨w.heap.size + 1 + 1, 3, none⟩ = some (Value.bool false) := (Lib.cell_of_heap Xo.out 3).trans rfl
  have fo3 : (((w.alloc (Obj.cells #[Value.string nm, Value.bool n1, Value.slice a1 xs1.length c1, Value.bool m1, Value.slice a2 ys1.length c2, Value.int .i64 den2, Value.slice a3 ps2.length c3] 93)).alloc (Obj.cells #[Value.string ⟨#[]⟩, Value.bool false, Value.slice none 0 0, Value.bool false, Value.slice none 0 0, Value.int .i64 0, Value.slice none 0 0] 59)).alloc (Obj.cells #[Value.string nm, Value.bool false, Value.slice none 0 0, Value.bool false, Value.slice none 0 0, Value.int .i64 0, Value.slice none 0 0] 59)).frozen? ⟨w.heap.size + 1 + 1, 3, none⟩ = false := Lib.frozen_of_heap Xo.out 3
  have ko4 : (((w.alloc (Obj.cells #[Value.string nm, Value.bool n1, Value.slice a1 xs1.length c1, Value.bool m1, Value.slice a2 ys1.length c2, Value.int .i64 den2, Value.slice a3 ps2.length c3] 93)).alloc (Obj.cells #[Value.string ⟨#[]⟩, Value.bool false, Value.slice none 0 0, Value.bool false, Value.slice none 0 0, Value.int .i64 0, Value.slice none 0 0] 59)).alloc (Obj.cells #[Value.string nm, Value.bool false, Value.slice none 0 0, Value.bool false, Value.slice none 0 0, Value.int .i64 0, Value.slice none 0 0] 59)).cell? ⟨w.heap.size + 1 + 1, 4, none⟩ = some (Value.slice none 0 0) := (Lib.cell_of_heap Xo.out 4).trans rfl
  have fo4 : (((w.alloc (Obj.cells #[Value.string nm, Value.bool n1, Value.slice a1 xs1.length c1, Value.bool m1, Value.slice a2 ys1.length c2, Value.int .i64 den2, Value.slice a3 ps2.length c3] 93)).alloc (Obj.cells #[Value.string ⟨#[]⟩, Value.bool false, Value.slice none 0 0, Value.bool false, Value.slice none 0 0, Value.int .i64 0, Value.slice none 0 0] 59)).alloc (Obj.cells #[Value.string nm, Value.bool false, Value.slice none 0 0, Value.bool false, Value.slice none 0 0, Value.int .i64 0, Value.slice none 0 0] 59)).frozen? ⟨w.heap.size + 1 + 1, 4, none⟩ = false := Lib.frozen_of_heap Xo.out 4
  have ko5 : (((w.alloc (Obj.cells #[Value.string nm, Value.bool n1, Value.slice a1 xs1.length c1, Value.bool m1, Value.slice a2 ys1.length c2, Value.int .i64 den2, Value.slice a3 ps2.length c3] 93)).alloc (Obj.cells #[Value.string ⟨#[]⟩, Value.bool false, Value.slice none 0 0, Value.bool false, Value.slice none 0 0, Value.int .i64 0, Value.slice none 0 0] 59)).alloc (Obj.cells #[Value.string nm, Value.bool false, Value.slice none 0 0, Value.bool false, Value.slice none 0 0, Value.int .i64 0, Value.slice none 0 0] 59)).cell? ⟨w.heap.size + 1 + 1, 5, none⟩ = some (Value.int .i64 0) := (Lib.cell_of_heap Xo.out 5).trans rfl
  have fo5 : (((w.alloc (Obj.cells #[Value.string nm, Value.bool n1, Value.slice a1 xs1.length c1, Value.bool m1, Value.slice a2 ys1.length c2, Value.int .i64 den2, Value.slice a3 ps2.length c3] 93)).alloc (Obj.cells #[Value.string ⟨#[]⟩, Value.bool false, Value.slice none 0 0, Value.bool false, Value.slice none 0 0, Value.int .i64 0, Value.slice none 0 0] 59)).alloc (Obj.cells #[Value.string nm, Value.bool false, Value.slice none 0 0, Value.bool false, Value.slice none 0 0, Value.int .i64 0, Value.slice none 0 0] 59)).frozen? ⟨w.heap.size + 1 + 1, 5, none⟩ = false := Lib.frozen_of_heap Xo.out 5
  have ko6 : (((w.alloc (Obj.cells #[Value.string nm, Value.bool n1, Value.slice a1 xs1.length c1, Value.bool m1, Value.slice a2 ys1.length c2, Value.int .i64 den2, Value.slice a3 ps2.length c3] 93)).alloc (Obj.cells #[Value.string ⟨#[]⟩, Value.bool false, Value.slice none 0 0, Value.bool false, Value.slice none 0 0, Value.int .i64 0, Value.slice none 0 0] 59)).alloc (Obj.cells #[Value.string nm, Value.bool false, Value.slice none 0 0, Value.bool false, Value.slice none 0 0, Value.int .i64 0, Value.slice none 0 0] 59)).cell? ⟨w.heap.size + 1 + 1, 6, none⟩ = some (Value.slice none 0 0) := (Lib.cell_of_heap Xo.out 6).trans rfl
  have fo6 : (((w.alloc (Obj.cells #[Value.string nm, Value.bool n1, Value.slice a1 xs1.length c1, Value.bool m1, Value.slice a2 ys1.length c2, Value.int .i64 den2, Value.slice a3 ps2.length c3] 93)).alloc (Obj.cells #[Value.string ⟨#[]⟩, Value.bool false, Value.slice none 0 0, Value.bool false, Value.slice none 0 0, Value.int .i64 0, Value.slice none 0 0] 59)).alloc (Obj.cells #[Value.string nm, Value.bool false, Value.slice none 0 0, Value.bool false, Value.slice none 0 0, Value.int .i64 0, Value.slice none 0 0] 59)).frozen? ⟨w.heap.size + 1 + 1, 6, none⟩ = false := Lib.frozen_of_heap Xo.out 6
  have zo : w.heap.size + 1 + 1 < (((w.alloc (Obj.cells #[Value.string nm, Value.bool n1, Value.slice a1 xs1.length c1, Value.bool m1, Value.slice a2 ys1.length c2, Value.int .i64 den2, Value.slice a3 ps2.length c3] 93)).alloc (Obj.cells #[Value.string ⟨#[]⟩, Value.bool false, Value.slice none 0 0, Value.bool false, Value.slice none 0 0, Value.int .i64 0, Value.slice none 0 0] 59)).alloc (Obj.cells #[Value.string nm, Value.bool false, Value.slice none 0 0, Value.bool false, Value.slice none 0 0, Value.int .i64 0, Value.slice none 0 0] 59)).heap.size := hlt Xo.out
  go_enter Tryz.func52, Tryz.ntmps52
  go_wp2_with fail
  generalize (((w.alloc (Obj.cells #[Value.string nm, Value.bool n1, Value.slice a1 xs1.length c1, Value.bool m1, Value.slice a2 ys1.length c2, Value.int .i64 den2, Value.slice a3 ps2.length c3] 93)).alloc (Obj.cells #[Value.string ⟨#[]⟩, Value.bool false, Value.slice none 0 0, Value.bool false, Value.slice none 0 0, Value.int .i64 0, Value.slice none 0 0] 59)).alloc (Obj.cells #[Value.string nm, Value.bool false, Value.slice none 0 0, Value.bool false, Value.slice none 0 0, Value.int .i64 0, Value.slice none 0 0] 59)) = w1 at *
  refine (toR n1 a1 c1 xs1 m1 a2 c2 ys1 _ (S1.out.below HB.out) (S2.out.below HB.out) h1 h2).mono ?_
  rintro e w2 ⟨b1, d1, b2, d2, rfl, ho1, ho2, _, hb⟩
  have yw2 := hb.size
  clear ka0 fa0 ka1 fa1 ka2 fa2 ka3 fa3 ka4 fa4 ka5 fa5 ka6 fa6 za
  clear kr0 fr0 kr1 fr1 kr2 fr2 kr3 fr3 kr4 fr4 kr5 fr5 kr6 fr6 zr
  clear ko0 fo0 ko1 fo1 ko2 fo2 ko3 fo3 ko4 fo4 ko5 fo5 ko6 fo6 zo
  replace Xa := hide (hbel Xa.out hb (by first | assumption | omega))
  replace Xr := hide (hbel Xr.out hb (by first | assumption | omega))
  replace Xo := hide (hbel Xo.out hb (by first | assumption | omega))
  replace HB := hide (bl_trans HB.out hb)
  clear hb
  have O1 := hide ho1
  clear ho1
  have O2 := hide ho2
  clear ho2
  have ka0 : w2.cell? ⟨w.heap.size, 0, none⟩ = some (Value.string nm) := (Lib.cell_of_heap Xa.out 0).trans rfl
  have fa0 : w2.frozen? ⟨w.heap.size, 0, none⟩ = false := Lib.frozen_of_heap Xa.out 0
  have ka1 : w2.cell? ⟨w.heap.size, 1, none⟩ = some (Value.bool n1) := (Lib.cell_of_heap Xa.out 1).trans rfl
  have fa1 : w2.frozen? ⟨w.heap.size, 1, none⟩ = false := Lib.frozen_of_heap Xa.out 1
  have ka2 : w2.cell? ⟨w.heap.size, 2, none⟩ = some (Value.slice a1 xs1.length c1) := (Lib.cell_of_heap Xa.out 2).trans rfl
  have fa2 : w2.frozen? ⟨w.heap.size, 2, none⟩ = false := Lib.frozen_of_heap Xa.out 2
  have ka3 : w2.cell? ⟨w.heap.size, 3, none⟩ = some (Value.bool m1) := (Lib.cell_of_heap Xa.out 3).trans rfl
  have fa3 : w2.frozen? ⟨w.heap.size, 3, none⟩ = false := Lib.frozen_of_heap Xa.out 3
  have ka4 : w2.cell? ⟨w.heap.size, 4, none⟩ = some (Value.slice a2 ys1.length c2) := (Lib.cell_of_heap Xa.out 4).trans rfl
  have fa4 : w2.frozen? ⟨w.heap.size, 4, none⟩ = false := Lib.frozen_of_heap Xa.out 4
  have ka5 : w2.cell? ⟨w.heap.size, 5, none⟩ = some (Value.int .i64 den2) := (Lib.cell_of_heap Xa.out 5).trans rfl
  have fa5 : w2.frozen? ⟨w.heap.size, 5, none⟩ = false := Lib.frozen_of_heap Xa.out 5
  have ka6 : w2.cell? ⟨w.heap.size, 6, none⟩ = some (Value.slice a3 ps2.length c3) := (Lib.cell_of_heap Xa.out 6).trans rfl
  have fa6 : w2.frozen? ⟨w.heap.size, 6, none⟩ = false := Lib.frozen_of_heap Xa.out 6
  have za : w.heap.size < w2.heap.size := hlt Xa.out
  have kr0 : w2.cell? ⟨w.heap.size + 1, 0, none⟩ = some (Value.string ⟨#[]⟩) := (Lib.cell_of_heap Xr.out 0).trans rfl
  have fr0 : w2.frozen? ⟨w.heap.size + 1, 0, none⟩ = false := Lib.frozen_of_heap Xr.out 0
  have kr1 : w2.cell? ⟨w.heap.size + 1, 1, none⟩ = some (Value.bool false) := (Lib.cell_of_heap Xr.out 1).trans rfl
  have fr1 : w2.frozen? ⟨w.heap.size + 1, 1, none⟩ = false := Lib.frozen_of_heap Xr.out 1
  have kr2 : w2.cell? ⟨w.heap.size + 1, 2, none⟩ = some (Value.slice none 0 0) := (Lib.cell_of_heap Xr.out 2).trans rfl
  have fr2 : w2.frozen? ⟨w.heap.size + 1, 2, none⟩ = false := Lib.frozen_of_heap Xr.out 2
  have kr3 : w2.cell? ⟨w.heap.size + 1, 3, none⟩ = some (Value.bool false) := (Lib.cell_of_heap Xr.out 3).trans rfl
  have fr3 : w2.frozen? ⟨w.heap.size + 1, 3, none⟩ = false := Lib.frozen_of_heap Xr.out 3
  have kr4 : w2.cell? ⟨w.heap.size + 1, 4, none⟩ = some (Value.slice none 0 0) := (Lib.cell_of_heap Xr.out 4).trans rfl
  have fr4 : w2.frozen? ⟨w.heap.size + 1, 4, none⟩ = false := Lib.frozen_of_heap Xr.out 4
  have kr5 : w2.cell? ⟨w.heap.size + 1, 5, none⟩ = some (Value.int .i64 0) := (Lib.cell_of_heap Xr.out 5).trans rfl
  have fr5 : w2.frozen? ⟨w.heap.size + 1, 5, none⟩ = false := Lib.frozen_of_heap Xr.out 5
  have kr6 : w2.cell? ⟨w.heap.size + 1, 6, none⟩ = some (Value.slice none 0 0) := (Lib.cell_of_heap Xr.out 6).trans rfl
  have fr6 : w2.frozen? ⟨w.heap.size + 1, 6, none⟩ = false := Lib.frozen_of_heap Xr.out 6
  have zr : w.heap.size + 1 < w2.heap.size := hlt Xr.out
  have ko0 : w2.cell? ⟨w.heap.size + 1 + 1, 0, none⟩ = some (Value.string nm) := (Lib.cell_of_heap Xo.out 0).trans rfl
  have fo0 : w2.frozen? ⟨w.heap.size + 1 + 1, 0, none⟩ = false := Lib.frozen_of_heap Xo.out 0
  have ko1 : w2.cell? ⟨w.heap.size + 1 + 1, 1, none⟩ = some (Value.bool false) := (Lib.cell_of_heap Xo.out 1).trans rfl
  have fo1 : w2.frozen? ⟨w.heap.size + 1 + 1, 1, none⟩ = false := Lib.frozen_of_heap Xo.out 1
  have ko2 : w2.cell? ⟨w.heap.size + 1 + 1, 2, none⟩ = some (Value.slice none 0 0) := (Lib.cell_of_heap Xo.out 2).trans rfl
  have fo2 : w2.frozen? ⟨w.heap.size + 1 + 1, 2, none⟩ = false := Lib.frozen_of_heap Xo.out 2
  have ko3 : w2.cell? ⟨w.heap.size + 1 + 1, 3, none⟩ = some (Value.bool false) := (Lib.cell_of_heap Xo.out 3).trans rfl
  have fo3 : w2.frozen? ⟨w.heap.size + 1 + 1, 3, none⟩ = false := Lib.frozen_of_heap Xo.out 3
  have ko4 : w2.cell? ⟨w.heap.size + 1 + 1, 4, none⟩ = some (Value.slice none 0 0) := (Lib.cell_of_heap Xo.out 4).trans rfl
  have fo4 : w2.frozen? ⟨w.heap.size + 1 + 1, 4, none⟩ = false := Lib.frozen_of_heap Xo.out 4
  have ko5 : w2.cell? ⟨w.heap.size + 1 + 1, 5, none⟩ = some (Value.int .i64 0) := (Lib.cell_of_heap Xo.out 5).trans rfl
  have fo5 : w2.frozen? ⟨w.heap.size + 1 + 1, 5, none⟩ = false := Lib.frozen_of_heap Xo.out 5
  have ko6 : w2.cell? ⟨w.heap.size + 1 + 1, 6, none⟩ = some (Value.slice none 0 0) := (Lib.cell_of_heap Xo.out 6).trans rfl
  have fo6 : w2.frozen? ⟨w.heap.size + 1 + 1, 6, none⟩ = false := Lib.frozen_of_heap Xo.out 6
  have zo : w.heap.size + 1 + 1 < w2.heap.size := hlt Xo.out
  go_wp2_with fail
  obtain ⟨w3, ew3⟩ : ∃ x, x = ((((w2.setCell ⟨w.heap.size + 1 + 1, 1, none⟩ (Value.bool n1)).setCell ⟨w.heap.size + 1 + 1, 2, none⟩ (Value.slice b1 xs1.length d1)).setCell ⟨w.heap.size + 1 + 1, 3, none⟩ (Value.bool m1)).setCell ⟨w.heap.size + 1 + 1, 4, none⟩ (Value.slice b2 ys1.length d2)) := ⟨_, rfl⟩
  have hst : St (w.heap.size + 1 + 1) w2 w3 := by rw [ew3]; exact (((((St.refl (w.heap.size + 1 + 1) w2).set 1 (Value.bool n1)).set 2 (Value.slice b1 xs1.length d1)).set 3 (Value.bool m1)).set 4 (Value.slice b2 ys1.length d2))
  rw [← ew3]
  have XX : Hid (w3.heap[w.heap.size + 1 + 1]? = some (.cells #[Value.string nm, Value.bool n1, Value.slice b1 xs1.length d1, Value.bool m1, Value.slice b2 ys1.length d2, Value.int .i64 0, Value.slice none 0 0] 59 (0, 0))) := hide (by rw [ew3]; exact (hset (hset (hset (hset Xo.out 1 (Value.bool n1)) 2 (Value.slice b1 xs1.length d1)) 3 (Value.bool m1)) 4 (Value.slice b2 ys1.length d2)))
  have yw3 : w2.heap.size ≤ w3.heap.size := Nat.le_of_eq hst.size.symm
  clear ew3
  clear ka0 fa0 ka1 fa1 ka2 fa2 ka3 fa3 ka4 fa4 ka5 fa5 ka6 fa6 za
  clear kr0 fr0 kr1 fr1 kr2 fr2 kr3 fr3 kr4 fr4 kr5 fr5 kr6 fr6 zr
  clear ko0 fo0 ko1 fo1 ko2 fo2 ko3 fo3 ko4 fo4 ko5 fo5 ko6 fo6 zo
  replace Xa := hide (hst.heap Xa.out (by omega))
  replace Xr := hide (hst.heap Xr.out (by omega))
  replace O1 := hide (O1.out.st hst (by omega))
  replace O2 := hide (O2.out.st hst (by omega))
  replace HB := hide (St.below HB.out hst (by omega))
  have Xo := XX
  clear XX hst
  have ka0 : w3.cell? ⟨w.heap.size, 0, none⟩ = some (Value.string nm) := (Lib.cell_of_heap Xa.out 0).trans rfl
  have fa0 : w3.frozen? ⟨w.heap.size, 0, none⟩ = false := Lib.frozen_of_heap Xa.out 0
  have ka1 : w3.cell? ⟨w.heap.size, 1, none⟩ = some (Value.bool n1) := (Lib.cell_of_heap Xa.out 1).trans rfl
  have fa1 : w3.frozen? ⟨w.heap.size, 1, none⟩ = false := Lib.frozen_of_heap Xa.out 1
  have ka2 : w3.cell? ⟨w.heap.size, 2, none⟩ = some (Value.slice a1 xs1.length c1) := (Lib.cell_of_heap Xa.out 2).trans rfl
  have fa2 : w3.frozen? ⟨w.heap.size, 2, none⟩ = false := Lib.frozen_of_heap Xa.out 2
  have ka3 : w3.cell? ⟨w.heap.size, 3, none⟩ = some (Value.bool m1) := (Lib.cell_of_heap Xa.out 3).trans rfl
  have fa3 : w3.frozen? ⟨w.heap.size, 3, none⟩ = false := Lib.frozen_of_heap Xa.out 3
  have ka4 : w3.cell? ⟨w.heap.size, 4, none⟩ = some (Value.slice a2 ys1.length c2) := (Lib.cell_of_heap Xa.out 4).trans rfl
  have fa4 : w3.frozen? ⟨w.heap.size, 4, none⟩ = false := Lib.frozen_of_heap Xa.out 4
  have ka5 : w3.cell? ⟨w.heap.size, 5, none⟩ = some (Value.int .i64 den2) := (Lib.cell_of_heap Xa.out 5).trans rfl
  have fa5 : w3.frozen? ⟨w.heap.size, 5, none⟩ = false := Lib.frozen_of_heap Xa.out 5
  have ka6 : w3.cell? ⟨w.heap.size, 6, none⟩ = some (Value.slice a3 ps2.length c3) := (Lib.cell_of_heap Xa.out 6).trans rfl
  have fa6 : w3.frozen? ⟨w.heap.size, 6, none⟩ = false := Lib.frozen_of_heap Xa.out 6
  have za : w.heap.size < w3.heap.size := hlt Xa.out
  have kr0 : w3.cell? ⟨w.heap.size + 1, 0, none⟩ = some (Value.string ⟨#[]⟩) := (Lib.cell_of_heap Xr.out 0).trans rfl
  have fr0 : w3.frozen? ⟨w.heap.size + 1, 0, none⟩ = false := Lib.frozen_of_heap Xr.out 0
  have kr1 : w3.cell? ⟨w.heap.size + 1, 1, none⟩ = some (Value.bool false) := (Lib.cell_of_heap Xr.out 1).trans rfl
  have fr1 : w3.frozen? ⟨w.heap.size + 1, 1, none⟩ = false := Lib.frozen_of_heap Xr.out 1
  have kr2 : w3.cell? ⟨w.heap.size + 1, 2, none⟩ = some (Value.slice none 0 0) := (Lib.cell_of_heap Xr.out 2).trans rfl
  have fr2 : w3.frozen? ⟨w.heap.size + 1, 2, none⟩ = false := Lib.frozen_of_heap Xr.out 2
  have kr3 : w3.cell? ⟨w.heap.size + 1, 3, none⟩ = some (Value.bool false) := (Lib.cell_of_heap Xr.out 3).trans rfl
  have fr3 : w3.frozen? ⟨w.heap.size + 1, 3, none⟩ = false := Lib.frozen_of_heap Xr.out 3
  have kr4 : w3.cell? ⟨w.heap.size + 1, 4, none⟩ = some (Value.slice none 0 0) := (Lib.cell_of_heap Xr.out 4).trans rfl
  have fr4 : w3.frozen? ⟨w.heap.size + 1, 4, none⟩ = false := Lib.frozen_of_heap Xr.out 4
  have kr5 : w3.cell? ⟨w.heap.size + 1, 5, none⟩ = some (Value.int .i64 0) := (Lib.cell_of_heap Xr.out 5).trans rfl
  have fr5 : w3.frozen? ⟨w.heap.size + 1, 5, none⟩ = false := Lib.frozen_of_heap Xr.out 5
  have kr6 : w3.cell? ⟨w.heap.size + 1, 6, none⟩ = some (Value.slice none 0 0) := (Lib.cell_of_heap Xr.out 6).trans rfl
  have fr6 : w3.frozen? ⟨w.heap.size + 1, 6, none⟩ = false := Lib.frozen_of_heap Xr.out 6
  have zr : w.heap.size + 1 < w3.heap.size := hlt Xr.out
  have ko0 : w3.cell? ⟨w.heap.size + 1 + 1, 0, none⟩ = some (Value.string nm) := (Lib.cell_of_heap Xo.out 0).trans rfl
  have fo0 : w3.frozen? ⟨w.heap.size + 1 + 1, 0, none⟩ = false := Lib.frozen_of_heap Xo.out 0
  have ko1 : w3.cell? ⟨w.heap.size + 1 + 1, 1, none⟩ = some (Value.bool n1) := (Lib.cell_of_heap Xo.out 1).trans rfl
  have fo1 : w3.frozen? ⟨w.heap.size + 1 + 1, 1, none⟩ = false := Lib.frozen_of_heap Xo.out 1
  have ko2 : w3.cell? ⟨w.heap.size + 1 + 1, 2, none⟩ = some (Value.slice b1 xs1.length d1) := (Lib.cell_of_heap Xo.out 2).trans rfl
  have fo2 : w3.frozen? ⟨w.heap.size + 1 + 1, 2, none⟩ = false := Lib.frozen_of_heap Xo.out 2
  have ko3 : w3.cell? ⟨w.heap.size + 1 + 1, 3, none⟩ = some (Value.bool m1) := (Lib.cell_of_heap Xo.out 3).trans rfl
  have fo3 : w3.frozen? ⟨w.heap.size + 1 + 1, 3, none⟩ = false := Lib.frozen_of_heap Xo.out 3
  have ko4 : w3.cell? ⟨w.heap.size + 1 + 1, 4, none⟩ = some (Value.slice b2 ys1.length d2) := (Lib.cell_of_heap Xo.out 4).trans rfl
  have fo4 : w3.frozen? ⟨w.heap.size + 1 + 1, 4, none⟩ = false := Lib.frozen_of_heap Xo.out 4
  have ko5 : w3.cell? ⟨w.heap.size + 1 + 1, 5, none⟩ = some (Value.int .i64 0) := (Lib.cell_of_heap Xo.out 5).trans rfl
  have fo5 : w3.frozen? ⟨w.heap.size + 1 + 1, 5, none⟩ = false := Lib.frozen_of_heap Xo.out 5
  have ko6 : w3.cell? ⟨w.heap.size + 1 + 1, 6, none⟩ = some (Value.slice none 0 0) := (Lib.cell_of_heap Xo.out 6).trans rfl
  have fo6 : w3.frozen? ⟨w.heap.size + 1 + 1, 6, none⟩ = false := Lib.frozen_of_heap Xo.out 6
  have zo : w.heap.size + 1 + 1 < w3.heap.size := hlt Xo.out
  refine (V.toB den2 a3 _ c3 ps2 _ (S3.out.below HB.out) h3).mono ?_
  rintro e w4 ⟨u2, rfl, ⟨b3, d3, rfl, ho3⟩, hb⟩
  have yw4 := hb.size
  clear ka0 fa0 ka1 fa1 ka2 fa2 ka3 fa3 ka4 fa4 ka5 fa5 ka6 fa6 za
  clear kr0 fr0 kr1 fr1 kr2 fr2 kr3 fr3 kr4 fr4 kr5 fr5 kr6 fr6 zr
  clear ko0 fo0 ko1 fo1 ko2 fo2 ko3 fo3 ko4 fo4 ko5 fo5 ko6 fo6 zo
  replace Xa := hide (hbel Xa.out hb (by first | assumption | omega))
  replace Xr := hide (hbel Xr.out hb (by first | assumption | omega))
  replace Xo := hide (hbel Xo.out hb (by first | assumption | omega))
  replace O1 := hide (O1.out.below hb)
  replace O2 := hide (O2.out.below hb)
  replace HB := hide (bl_trans HB.out hb)
  clear hb
  have O3 := hide ho3
  clear ho3
  have ka0 : w4.cell? ⟨w.heap.size, 0, none⟩ = some (Value.string nm) := (Lib.cell_of_heap Xa.out 0).trans rfl
  have fa0 : w4.frozen? ⟨w.heap.size, 0, none⟩ = false := Lib.frozen_of_heap Xa.out 0
  have ka1 : w4.cell? ⟨w.heap.size, 1, none⟩ = some (Value.bool n1) := (Lib.cell_of_heap Xa.out 1).trans rfl
  have fa1 : w4.frozen? ⟨w.heap.size, 1, none⟩ = false := Lib.frozen_of_heap Xa.out 1
  have ka2 : w4.cell? ⟨w.heap.size, 2, none⟩ = some (Value.slice a1 xs1.length c1) := (Lib.cell_of_heap Xa.out 2).trans rfl
  have fa2 : w4.frozen? ⟨w.heap.size, 2, none⟩ = false := Lib.frozen_of_heap Xa.out 2
  have ka3 : w4.cell? ⟨w.heap.size, 3, none⟩ = some (Value.bool m1) := (Lib.cell_of_heap Xa.out 3).trans rfl
  have fa3 : w4.frozen? ⟨w.heap.size, 3, none⟩ = false := Lib.frozen_of_heap Xa.out 3
  have ka4 : w4.cell? ⟨w.heap.size, 4, none⟩ = some (Value.slice a2 ys1.length c2) := (Lib.cell_of_heap Xa.out 4).trans rfl
  have fa4 : w4.frozen? ⟨w.heap.size, 4, none⟩ = false := Lib.frozen_of_heap Xa.out 4
  have ka5 : w4.cell? ⟨w.heap.size, 5, none⟩ = some (Value.int .i64 den2) := (Lib.cell_of_heap Xa.out 5).trans rfl
  have fa5 : w4.frozen? ⟨w.heap.size, 5, none⟩ = false := Lib.frozen_of_heap Xa.out 5
  have ka6 : w4.cell? ⟨w.heap.size, 6, none⟩ = some (Value.slice a3 ps2.length c3) := (Lib.cell_of_heap Xa.out 6).trans rfl
  have fa6 : w4.frozen? ⟨w.heap.size, 6, none⟩ = false := Lib.frozen_of_heap Xa.out 6
  have za : w.heap.size < w4.heap.size := hlt Xa.out
  have kr0 : w4.cell? ⟨w.heap.size + 1, 0, none⟩ = some (Value.string ⟨#[]⟩) := (Lib.cell_of_heap Xr.out 0).trans rfl
  have fr0 : w4.frozen? ⟨w.heap.size + 1, 0, none⟩ = false := Lib.frozen_of_heap Xr.out 0
  have kr1 : w4.cell? ⟨w.heap.size + 1, 1, none⟩ = some (Value.bool false) := (Lib.cell_of_heap Xr.out 1).trans rfl
  have fr1 : w4.frozen? ⟨w.heap.size + 1, 1, none⟩ = false := Lib.frozen_of_heap Xr.out 1
  have kr2 : w4.cell? ⟨w.heap.size + 1, 2, none⟩ = some (Value.slice none 0 0) := (Lib.cell_of_heap Xr.out 2).trans rfl
  have fr2 : w4.frozen? ⟨w.heap.size + 1, 2, none⟩ = false := Lib.frozen_of_heap Xr.out 2
  have kr3 : w4.cell? ⟨w.heap.size + 1, 3, none⟩ = some (Value.bool false) := (Lib.cell_of_heap Xr.out 3).trans rfl
  have fr3 : w4.frozen? ⟨w.heap.size + 1, 3, none⟩ = false := Lib.frozen_of_heap Xr.out 3
  have kr4 : w4.cell? ⟨w.heap.size + 1, 4, none⟩ = some (Value.slice none 0 0) := (Lib.cell_of_heap Xr.out 4).trans rfl
  have fr4 : w4.frozen? ⟨w.heap.size + 1, 4, none⟩ = false := Lib.frozen_of_heap Xr.out 4
  have kr5 : w4.cell? ⟨w.heap.size + 1, 5, none⟩ = some (Value.int .i64 0) := (Lib.cell_of_heap Xr.out 5).trans rfl
  have fr5 : w4.frozen? ⟨w.heap.size + 1, 5, none⟩ = false := Lib.frozen_of_heap Xr.out 5
  have kr6 : w4.cell? ⟨w.heap.size + 1, 6, none⟩ = some (Value.slice none 0 0) := (Lib.cell_of_heap Xr.out 6).trans rfl
  have fr6 : w4.frozen? ⟨w.heap.size + 1, 6, none⟩ = false := Lib.frozen_of_heap Xr.out 6
  have zr : w.heap.size + 1 < w4.heap.size := hlt Xr.out
  have ko0 : w4.cell? ⟨w.heap.size + 1 + 1, 0, none⟩ = some (Value.string nm) := (Lib.cell_of_heap Xo.out 0).trans rfl
  have fo0 : w4.frozen? ⟨w.heap.size + 1 + 1, 0, none⟩ = false := Lib.frozen_of_heap Xo.out 0
  have ko1 : w4.cell? ⟨w.heap.size + 1 + 1, 1, none⟩ = some (Value.bool n1) := (Lib.cell_of_heap Xo.out 1).trans rfl
  have fo1 : w4.frozen? ⟨w.heap.size + 1 + 1, 1, none⟩ = false := Lib.frozen_of_heap Xo.out 1
  have ko2 : w4.cell? ⟨w.heap.size + 1 + 1, 2, none⟩ = some (Value.slice b1 xs1.length d1) := (Lib.cell_of_heap Xo.out 2).trans rfl
  have fo2 : w4.frozen? ⟨w.heap.size + 1 + 1, 2, none⟩ = false := Lib.frozen_of_heap Xo.out 2
  have ko3 : w4.cell? ⟨w.heap.size + 1 + 1, 3, none⟩ = some (Value.bool m1) := (Lib.cell_of_heap Xo.out 3).trans rfl
  have fo3 : w4.frozen? ⟨w.heap.size + 1 + 1, 3, none⟩ = false := Lib.frozen_of_heap Xo.out 3
  have ko4 : w4.cell? ⟨w.heap.size + 1 + 1, 4, none⟩ = some (Value.slice b2 ys1.length d2) := (Lib.cell_of_heap Xo.out 4).trans rfl
  have fo4 : w4.frozen? ⟨w.heap.size + 1 + 1, 4, none⟩ = false := Lib.frozen_of_heap Xo.out 4
  have ko5 : w4.cell? ⟨w.heap.size + 1 + 1, 5, none⟩ = some (Value.int .i64 0) := (Lib.cell_of_heap Xo.out 5).trans rfl
  have fo5 : w4.frozen? ⟨w.heap.size + 1 + 1, 5, none⟩ = false := Lib.frozen_of_heap Xo.out 5
  have ko6 : w4.cell? ⟨w.heap.size + 1 + 1, 6, none⟩ = some (Value.slice none 0 0) := (Lib.cell_of_heap Xo.out 6).trans rfl
  have fo6 : w4.frozen? ⟨w.heap.size + 1 + 1, 6, none⟩ = false := Lib.frozen_of_heap Xo.out 6
  have zo : w.heap.size + 1 + 1 < w4.heap.size := hlt Xo.out
  go_wp2
  obtain ⟨w5, ew5⟩ : ∃ x, x = ((w4.setCell ⟨w.heap.size + 1 + 1, 5, none⟩ (Value.int .i64 den2)).setCell ⟨w.heap.size + 1 + 1, 6, none⟩ (Value.slice b3 ps2.length d3)) := ⟨_, rfl⟩
  have hst : St (w.heap.size + 1 + 1) w4 w5 := by rw [ew5]; exact (((St.refl (w.heap.size + 1 + 1) w4).set 5 (Value.int .i64 den2)).set 6 (Value.slice b3 ps2.length d3))
  rw [← ew5]
  have XX : Hid (w5.heap[w.heap.size + 1 + 1]? = some (.cells #[Value.string nm, Value.bool n1, Value.slice b1 xs1.length d1, Value.bool m1, Value.slice b2 ys1.length d2, Value.int .i64 den2, Value.slice b3 ps2.length d3] 59 (0, 0))) := hide (by rw [ew5]; exact (hset (hset Xo.out 5 (Value.int .i64 den2)) 6 (Value.slice b3 ps2.length d3)))
  have yw5 : w4.heap.size ≤ w5.heap.size := Nat.le_of_eq hst.size.symm
  clear ew5
  clear ka0 fa0 ka1 fa1 ka2 fa2 ka3 fa3 ka4 fa4 ka5 fa5 ka6 fa6 za
  clear kr0 fr0 kr1 fr1 kr2 fr2 kr3 fr3 kr4 fr4 kr5 fr5 kr6 fr6 zr
  clear ko0 fo0 ko1 fo1 ko2 fo2 ko3 fo3 ko4 fo4 ko5 fo5 ko6 fo6 zo
  replace Xa := hide (hst.heap Xa.out (by omega))
  replace Xr := hide (hst.heap Xr.out (by omega))
  replace O1 := hide (O1.out.st hst (by omega))
  replace O2 := hide (O2.out.st hst (by omega))
  replace O3 := hide (O3.out.st hst (by omega))
  replace HB := hide (St.below HB.out hst (by omega))
  have Xo := XX
  clear XX hst
  have ka0 : w5.cell? ⟨w.heap.size, 0, none⟩ = some (Value.string nm) := (Lib.cell_of_heap Xa.out 0).trans rfl
  have fa0 : w5.frozen? ⟨w.heap.size, 0, none⟩ = false := Lib.frozen_of_heap Xa.out 0
  have ka1 : w5.cell? ⟨w.heap.size, 1, none⟩ = some (Value.bool n1) := (Lib.cell_of_heap Xa.out 1).trans rfl
  have fa1 : w5.frozen? ⟨w.heap.size, 1, none⟩ = false := Lib.frozen_of_heap Xa.out 1
  have ka2 : w5.cell? ⟨w.heap.size, 2, none⟩ = some (Value.slice a1 xs1.length c1) := (Lib.cell_of_heap Xa.out 2).trans rfl
  have fa2 : w5.frozen? ⟨w.heap.size, 2, none⟩ = false := Lib.frozen_of_heap Xa.out 2
  have ka3 : w5.cell? ⟨w.heap.size, 3, none⟩ = some (Value.bool m1) := (Lib.cell_of_heap Xa.out 3).trans rfl
  have fa3 : w5.frozen? ⟨w.heap.size, 3, none⟩ = false := Lib.frozen_of_heap Xa.out 3
  have ka4 : w5.cell? ⟨w.heap.size, 4, none⟩ = some (Value.slice a2 ys1.length c2) := (Lib.cell_of_heap Xa.out 4).trans rfl
  have fa4 : w5.frozen? ⟨w.heap.size, 4, none⟩ = false := Lib.frozen_of_heap Xa.out 4
  have ka5 : w5.cell? ⟨w.heap.size, 5, none⟩ = some (Value.int .i64 den2) := (Lib.cell_of_heap Xa.out 5).trans rfl
  have fa5 : w5.frozen? ⟨w.heap.size, 5, none⟩ = false := Lib.frozen_of_heap Xa.out 5
  have ka6 : w5.cell? ⟨w.heap.size, 6, none⟩ = some (Value.slice a3 ps2.length c3) := (Lib.cell_of_heap Xa.out 6).trans rfl
  have fa6 : w5.frozen? ⟨w.heap.size, 6, none⟩ = false := Lib.frozen_of_heap Xa.out 6
  have za : w.heap.size < w5.heap.size := hlt Xa.out
  have kr0 : w5.cell? ⟨w.heap.size + 1, 0, none⟩ = some (Value.string ⟨#[]⟩) := (Lib.cell_of_heap Xr.out 0).trans rfl
  have fr0 : w5.frozen? ⟨w.heap.size + 1, 0, none⟩ = false := Lib.frozen_of_heap Xr.out 0
  have kr1 : w5.cell? ⟨w.heap.size + 1, 1, none⟩ = some (Value.bool false) := (Lib.cell_of_heap Xr.out 1).trans rfl
  have fr1 : w5.frozen? ⟨w.heap.size + 1, 1, none⟩ = false := Lib.frozen_of_heap Xr.out 1
  have kr2 : w5.cell? ⟨w.heap.size + 1, 2, none⟩ = some (Value.slice none 0 0) := (Lib.cell_of_heap Xr.out 2).trans rfl
  have fr2 : w5.frozen? ⟨w.heap.size + 1, 2, none⟩ = false := Lib.frozen_of_heap Xr.out 2
  have kr3 : w5.cell? ⟨w.heap.size + 1, 3, none⟩ = some (Value.bool false) := (Lib.cell_of_heap Xr.out 3).trans rfl
  have fr3 : w5.frozen? ⟨w.heap.size + 1, 3, none⟩ = false := Lib.frozen_of_heap Xr.out 3
  have kr4 : w5.cell? ⟨w.heap.size + 1, 4, none⟩ = some (Value.slice none 0 0) := (Lib.cell_of_heap Xr.out 4).trans rfl
  have fr4 : w5.frozen? ⟨w.heap.size + 1, 4, none⟩ = false := Lib.frozen_of_heap Xr.out 4
  have kr5 : w5.cell? ⟨w.heap.size + 1, 5, none⟩ = some (Value.int .i64 0) := (Lib.cell_of_heap Xr.out 5).trans rfl
  have fr5 : w5.frozen? ⟨w.heap.size + 1, 5, none⟩ = false := Lib.frozen_of_heap Xr.out 5
  have kr6 : w5.cell? ⟨w.heap.size + 1, 6, none⟩ = some (Value.slice none 0 0) := (Lib.cell_of_heap Xr.out 6).trans rfl
  have fr6 : w5.frozen? ⟨w.heap.size + 1, 6, none⟩ = false := Lib.frozen_of_heap Xr.out 6
  have zr : w.heap.size + 1 < w5.heap.size := hlt Xr.out
  have ko0 : w5.cell? ⟨w.heap.size + 1 + 1, 0, none⟩ = some (Value.string nm) := (Lib.cell_of_heap Xo.out 0).trans rfl
  have fo0 : w5.frozen? ⟨w.heap.size + 1 + 1, 0, none⟩ = false := Lib.frozen_of_heap Xo.out 0
  have ko1 : w5.cell? ⟨w.heap.size + 1 + 1, 1, none⟩ = some (Value.bool n1) := (Lib.cell_of_heap Xo.out 1).trans rfl
  have fo1 : w5.frozen? ⟨w.heap.size + 1 + 1, 1, none⟩ = false := Lib.frozen_of_heap Xo.out 1
  have ko2 : w5.cell? ⟨w.heap.size + 1 + 1, 2, none⟩ = some (Value.slice b1 xs1.length d1) := (Lib.cell_of_heap Xo.out 2).trans rfl
  have fo2 : w5.frozen? ⟨w.heap.size + 1 + 1, 2, none⟩ = false := Lib.frozen_of_heap Xo.out 2
  have ko3 : w5.cell? ⟨w.heap.size + 1 + 1, 3, none⟩ = some (Value.bool m1) := (Lib.cell_of_heap Xo.out 3).trans rfl
  have fo3 : w5.frozen? ⟨w.heap.size + 1 + 1, 3, none⟩ = false := Lib.frozen_of_heap Xo.out 3
  have ko4 : w5.cell? ⟨w.heap.size + 1 + 1, 4, none⟩ = some (Value.slice b2 ys1.length d2) := (Lib.cell_of_heap Xo.out 4).trans rfl
  have fo4 : w5.frozen? ⟨w.heap.size + 1 + 1, 4, none⟩ = false := Lib.frozen_of_heap Xo.out 4
  have ko5 : w5.cell? ⟨w.heap.size + 1 + 1, 5, none⟩ = some (Value.int .i64 den2) := (Lib.cell_of_heap Xo.out 5).trans rfl
  have fo5 : w5.frozen? ⟨w.heap.size + 1 + 1, 5, none⟩ = false := Lib.frozen_of_heap Xo.out 5
  have ko6 : w5.cell? ⟨w.heap.size + 1 + 1, 6, none⟩ = some (Value.slice b3 ps2.length d3) := (Lib.cell_of_heap Xo.out 6).trans rfl
  have fo6 : w5.frozen? ⟨w.heap.size + 1 + 1, 6, none⟩ = false := Lib.frozen_of_heap Xo.out 6
  have zo : w.heap.size + 1 + 1 < w5.heap.size := hlt Xo.out
  obtain ⟨w6, ew6⟩ : ∃ x, x = (((((((w5.setCell ⟨w.heap.size + 1, 0, none⟩ (Value.string nm)).setCell ⟨w.heap.size + 1, 1, none⟩ (Value.bool n1)).setCell ⟨w.heap.size + 1, 2, none⟩ (Value.slice b1 xs1.length d1)).setCell ⟨w.heap.size + 1, 3, none⟩ (Value.bool m1)).setCell ⟨w.heap.size + 1, 4, none⟩ (Value.slice b2 ys1.length d2)).setCell ⟨w.heap.size + 1, 5, none⟩ (Value.int .i64 den2)).setCell ⟨w.heap.size + 1, 6, none⟩ (Value.slice b3 ps2.length d3)) := ⟨_, rfl⟩
  have hst : St (w.heap.size + 1) w5 w6 := by rw [ew6]; exact ((((((((St.refl (w.heap.size + 1) w5).set 0 (Value.string nm)).set 1 (Value.bool n1)).set 2 (Value.slice b1 xs1.length d1)).set 3 (Value.bool m1)).set 4 (Value.slice b2 ys1.length d2)).set 5 (Value.int .i64 den2)).set 6 (Value.slice b3 ps2.length d3))
  rw [← ew6]
  have XX : Hid (w6.heap[w.heap.size + 1]? = some (.cells #[Value.string nm, Value.bool n1, Value.slice b1 xs1.length d1, Value.bool m1, Value.slice b2 ys1.length d2, Value.int .i64 den2, Value.slice b3 ps2.length d3] 59 (0, 0))) := hide (by rw [ew6]; exact (hset (hset (hset (hset (hset (hset (hset Xr.out 0 (Value.string nm)) 1 (Value.bool n1)) 2 (Value.slice b1 xs1.length d1)) 3 (Value.bool m1)) 4 (Value.slice b2 ys1.length d2)) 5 (Value.int .i64 den2)) 6 (Value.slice b3 ps2.length d3)))
  have yw6 : w5.heap.size ≤ w6.heap.size := Nat.le_of_eq hst.size.symm
  clear ew6
  clear ka0 fa0 ka1 fa1 ka2 fa2 ka3 fa3 ka4 fa4 ka5 fa5 ka6 fa6 za
  clear kr0 fr0 kr1 fr1 kr2 fr2 kr3 fr3 kr4 fr4 kr5 fr5 kr6 fr6 zr
  clear ko0 fo0 ko1 fo1 ko2 fo2 ko3 fo3 ko4 fo4 ko5 fo5 ko6 fo6 zo
  replace Xa := hide (hst.heap Xa.out (by omega))
  replace Xo := hide (hst.heap Xo.out (by omega))
  replace O1 := hide (O1.out.st hst (by omega))
  replace O2 := hide (O2.out.st hst (by omega))
  replace O3 := hide (O3.out.st hst (by omega))
  replace HB := hide (St.below HB.out hst (by omega))
  have Xr := XX
  clear XX hst
  have ka0 : w6.cell? ⟨w.heap.size, 0, none⟩ = some (Value.string nm) := (Lib.cell_of_heap Xa.out 0).trans rfl
  have fa0 : w6.frozen? ⟨w.heap.size, 0, none⟩ = false := Lib.frozen_of_heap Xa.out 0
  have ka1 : w6.cell? ⟨w.heap.size, 1, none⟩ = some (Value.bool n1) := (Lib.cell_of_heap Xa.out 1).trans rfl
  have fa1 : w6.frozen? ⟨w.heap.size, 1, none⟩ = false := Lib.frozen_of_heap Xa.out 1
  have ka2 : w6.cell? ⟨w.heap.size, 2, none⟩ = some (Value.slice a1 xs1.length c1) := (Lib.cell_of_heap Xa.out 2).trans rfl
  have fa2 : w6.frozen? ⟨w.heap.size, 2, none⟩ = false := Lib.frozen_of_heap Xa.out 2
  have ka3 : w6.cell? ⟨w.heap.size, 3, none⟩ = some (Value.bool m1) := (Lib.cell_of_heap Xa.out 3).trans rfl
  have fa3 : w6.frozen? ⟨w.heap.size, 3, none⟩ = false := Lib.frozen_of_heap Xa.out 3
  have ka4 : w6.cell? ⟨w.heap.size, 4, none⟩ = some (Value.slice a2 ys1.length c2) := (Lib.cell_of_heap Xa.out 4).trans rfl
  have fa4 : w6.frozen? ⟨w.heap.size, 4, none⟩ = false := Lib.frozen_of_heap Xa.out 4
  have ka5 : w6.cell? ⟨w.heap.size, 5, none⟩ = some (Value.int .i64 den2) := (Lib.cell_of_heap Xa.out 5).trans rfl
  have fa5 : w6.frozen? ⟨w.heap.size, 5, none⟩ = false := Lib.frozen_of_heap Xa.out 5
  have ka6 : w6.cell? ⟨w.heap.size, 6, none⟩ = some (Value.slice a3 ps2.length c3) := (Lib.cell_of_heap Xa.out 6).trans rfl
  have fa6 : w6.frozen? ⟨w.heap.size, 6, none⟩ = false := Lib.frozen_of_heap Xa.out 6
  have za : w.heap.size < w6.heap.size := hlt Xa.out
  have kr0 : w6.cell? ⟨w.heap.size + 1, 0, none⟩ = some (Value.string nm) := (Lib.cell_of_heap Xr.out 0).trans rfl
  have fr0 : w6.frozen? ⟨w.heap.size + 1, 0, none⟩ = false := Lib.frozen_of_heap Xr.out 0
  have kr1 : w6.cell? ⟨w.heap.size + 1, 1, none⟩ = some (Value.bool n1) := (Lib.cell_of_heap Xr.out 1).trans rfl
  have fr1 : w6.frozen? ⟨w.heap.size + 1, 1, none⟩ = false := Lib.frozen_of_heap Xr.out 1
  have kr2 : w6.cell? ⟨w.heap.size + 1, 2, none⟩ = some (Value.slice b1 xs1.length d1) := (Lib.cell_of_heap Xr.out 2).trans rfl
  have fr2 : w6.frozen? ⟨w.heap.size + 1, 2, none⟩ = false := Lib.frozen_of_heap Xr.out 2
  have kr3 : w6.cell? ⟨w.heap.size + 1, 3, none⟩ = some (Value.bool m1) := (Lib.cell_of_heap Xr.out 3).trans rfl
  have fr3 : w6.frozen? ⟨w.heap.size + 1, 3, none⟩ = false := Lib.frozen_of_heap Xr.out 3
  have kr4 : w6.cell? ⟨w.heap.size + 1, 4, none⟩ = some (Value.slice b2 ys1.length d2) := (Lib.cell_of_heap Xr.out 4).trans rfl
  have fr4 : w6.frozen? ⟨w.heap.size + 1, 4, none⟩ = false := Lib.frozen_of_heap Xr.out 4
  have kr5 : w6.cell? ⟨w.heap.size + 1, 5, none⟩ = some (Value.int .i64 den2) := (Lib.cell_of_heap Xr.out 5).trans rfl
  have fr5 : w6.frozen? ⟨w.heap.size + 1, 5, none⟩ = false := Lib.frozen_of_heap Xr.out 5
  have kr6 : w6.cell? ⟨w.heap.size + 1, 6, none⟩ = some (Value.slice b3 ps2.length d3) := (Lib.cell_of_heap Xr.out 6).trans rfl
  have fr6 : w6.frozen? ⟨w.heap.size + 1, 6, none⟩ = false := Lib.frozen_of_heap Xr.out 6
  have zr : w.heap.size + 1 < w6.heap.size := hlt Xr.out
  have ko0 : w6.cell? ⟨w.heap.size + 1 + 1, 0, none⟩ = some (Value.string nm) := (Lib.cell_of_heap Xo.out 0).trans rfl
  have fo0 : w6.frozen? ⟨w.heap.size + 1 + 1, 0, none⟩ = false := Lib.frozen_of_heap Xo.out 0
  have ko1 : w6.cell? ⟨w.heap.size + 1 + 1, 1, none⟩ = some (Value.bool n1) := (Lib.cell_of_heap Xo.out 1).trans rfl
  have fo1 : w6.frozen? ⟨w.heap.size + 1 + 1, 1, none⟩ = false := Lib.frozen_of_heap Xo.out 1
  have ko2 : w6.cell? ⟨w.heap.size + 1 + 1, 2, none⟩ = some (Value.slice b1 xs1.length d1) := (Lib.cell_of_heap Xo.out 2).trans rfl
  have fo2 : w6.frozen? ⟨w.heap.size + 1 + 1, 2, none⟩ = false := Lib.frozen_of_heap Xo.out 2
  have ko3 : w6.cell? ⟨w.heap.size + 1 + 1, 3, none⟩ = some (Value.bool m1) := (Lib.cell_of_heap Xo.out 3).trans rfl
  have fo3 : w6.frozen? ⟨w.heap.size + 1 + 1, 3, none⟩ = false := Lib.frozen_of_heap Xo.out 3
  have ko4 : w6.cell? ⟨w.heap.size + 1 + 1, 4, none⟩ = some (Value.slice b2 ys1.length d2) := (Lib.cell_of_heap Xo.out 4).trans rfl
  have fo4 : w6.frozen? ⟨w.heap.size + 1 + 1, 4, none⟩ = false := Lib.frozen_of_heap Xo.out 4
  have ko5 : w6.cell? ⟨w.heap.size + 1 + 1, 5, none⟩ = some (Value.int .i64 den2) := (Lib.cell_of_heap Xo.out 5).trans rfl
  have fo5 : w6.frozen? ⟨w.heap.size + 1 + 1, 5, none⟩ = false := Lib.frozen_of_heap Xo.out 5
  have ko6 : w6.cell? ⟨w.heap.size + 1 + 1, 6, none⟩ = some (Value.slice b3 ps2.length d3) := (Lib.cell_of_heap Xo.out 6).trans rfl
  have fo6 : w6.frozen? ⟨w.heap.size + 1 + 1, 6, none⟩ = false := Lib.frozen_of_heap Xo.out 6
  have zo : w.heap.size + 1 + 1 < w6.heap.size := hlt Xo.out
  refine bodyPost_ret (v := Value.agg #[Value.string nm, Value.bool n1, Value.slice b1 xs1.length d1, Value.bool m1, Value.slice b2 ys1.length d2, Value.int .i64 den2, Value.slice b3 ps2.length d3]) (by simp [results, Tryz.results52, go_sem, kr0, kr1, kr2, kr3, kr4, kr5, kr6]) rfl ?_
  exact ⟨b1, d1, b2, d2, b3, d3, rfl, Own.mono O1.out (by omega), Own.mono O2.out (by omega), V.Own.mono O3.out (by omega), HB.out⟩

set_option maxHeartbeats 4000000 in
set_option maxRecDepth 20000 in
theorem Tryz.infoUn : (Tryz.prog.info? 59).map (fun i => (i.zero, i.size, i.bytes)) = some (some (.agg #[Value.string ⟨#[]⟩, Value.bool false, Value.slice none 0 0, Value.bool false, Value.slice none 0 0, Value.int .i64 0, Value.slice none 0 0]), 7, 112) := by kernel_rfl

set_option maxHeartbeats 4000000 in
set_option maxRecDepth 20000 in
theorem toUnS (a : Option Addr) (n cap : Nat) (X : Nat → Prop) (rs : List (List Lf)) (w : World) (hs : RSeg w X 7 a n cap rs) (hsh : ∀ r ∈ rs, ShUn r) (hn : n ≤ 1048576) (ht : rtot rs ≤ 1048576) :
    Calls Tryz.prog 29 #[.slice a n cap] w fun e w' => ∃ g, e = .returned (.slice (some ⟨g, 0, none⟩) n n) ∧ RMade w' w.heap.size 59 7 g n n rs ∧ Below w.heap.size w w' := by
  obtain ⟨i0, hi, hz0, hz1, hz2⟩ := info_parts Tryz.infoUn
  have hxl := hs.1
  have hcap := hs.2.1
  have hcm := hs.2.2.1
  have HS := hide hs
  clear hs
  go_enter Tryz.func29, Tryz.ntmps29
  go_wp2_with (at_make; refine wpList_make_full _ rfl _ _ 30 rfl w.heap.size 59 i0 (.agg #[Value.string ⟨#[]⟩, Value.bool false, Value.slice none 0 0, Value.bool false, Value.slice none 0 0, Value.int .i64 0, Value.slice none 0 0]) 7 Tryz.underlying30 hi hz0 hz1 _ _ _ _ n rfl rfl rfl rfl (by rw [hz2]; omega) (by unfold maxLen; omega) (Nat.le_refl _) ?_)
  intro w1 hown hgrow
  have hb1 : Below w.heap.size w w1 := (Below.refl _ _).grown hgrow (Nat.le_refl _) (by simp)
  have HO := hide hown
  have HB1 := hide hb1
  clear hown hgrow hb1
  go_wp2
  go_loopw [4] (fun i wr => ∃ (k : Nat), k ≤ n ∧ i = .int .i64 k ∧ Hid (RMade wr w.heap.size 59 7 w.heap.size n k rs) ∧ Hid (Below w.heap.size w wr)) (fun i _ => n - (intOf i).toNat)
  case atStart => exact ⟨0, Nat.zero_le _, rfl, hide ⟨Nat.le_refl _, ⟨_, HO.out⟩, fun j _ h => absurd h (Nat.not_lt_zero _)⟩, HB1⟩
  case round =>
    clear HO HB1
    obtain ⟨k, hk, rfl, hm, hb⟩ := hrel
    by_cases hlt : k < n
    · have hlt' : (k : Int) < (n : Int) := by omega
      have hkx : k < rs.length := by omega
      obtain ⟨g, o, rfl, hg, hrec⟩ := (HS.out.below hb.out).at hkx
      have HT := hide (Nat.le_trans (rtot_mem (List.getElem_mem hkx)) ht)
      obtain ⟨nm, n1, xs1, m1, ys1, den2, ps2, er⟩ := hsh rs[k] (List.getElem_mem _)
      rw [er] at hrec HT
      have ER := hide er
      clear er
      have wl1 : xs1.length ≤ 1048576 := by have := HT.out; simp only [rsz, Lf.sz] at this; omega
      have wl2 : ys1.length ≤ 1048576 := by have := HT.out; simp only [rsz, Lf.sz] at this; omega
      have wl3 : ps2.length ≤ 1048576 := by have := HT.out; simp only [rsz, Lf.sz] at this; omega
      clear HT
      obtain ⟨a1, c1, a2, c2, a3, c3, t0, t1, t2, t3, t4, t5, t6, sg1, sg2, sg3, _⟩ := openUn hrec
      have H1 := hide sg1
      have H2 := hide sg2
      have H3 := hide sg3
      clear sg1 sg2 sg3
      go_wp2_with fail
      refine (toUn nm n1 xs1 m1 ys1 den2 ps2 a1 c1 a2 c2 a3 c3 wr H1.out H2.out H3.out wl1 wl2 wl3).mono ?_
      rintro e w2 ⟨b1, d1, b2, d2, b3, d3, rfl, ho1, ho2, ho3, hb2⟩
      have O1 := hide ho1
      have O2 := hide ho2
      have O3 := hide ho3
      have hbb := hide (bl_trans hb.out hb2)
      have hmm := hide (hm.out.below hb2)
      have hgr := (RMade.lt hm.out)
      have hgr2 := (RMade.lt hmm.out)
      clear hb2 ho1 ho2 ho3 t0 t1 t2 t3 t4 t5 t6
      obtain ⟨v0, D0, F0⟩ := RMade.cellAt hmm.out 0 hlt (by omega)
      obtain ⟨v1, D1, F1⟩ := RMade.cellAt hmm.out 1 hlt (by omega)
      obtain ⟨v2, D2, F2⟩ := RMade.cellAt hmm.out 2 hlt (by omega)
      obtain ⟨v3, D3, F3⟩ := RMade.cellAt hmm.out 3 hlt (by omega)
      obtain ⟨v4, D4, F4⟩ := RMade.cellAt hmm.out 4 hlt (by omega)
      obtain ⟨v5, D5, F5⟩ := RMade.cellAt hmm.out 5 hlt (by omega)
      obtain ⟨v6, D6, F6⟩ := RMade.cellAt hmm.out 6 hlt (by omega)
      rw [Nat.add_zero] at D0 F0
      go_wp2
      have hput := hmm.out.put (fun r hr => by obtain ⟨_, _, _, _, _, _, _, e⟩ := hsh r hr; rw [e]; rfl) hlt [Value.string nm, Value.bool n1, Value.slice b1 xs1.length d1, Value.bool m1, Value.slice b2 ys1.length d2, Value.int .i64 den2, Value.slice b3 ps2.length d3] rfl (fun hk' => by rw [ER.out]; exact ⟨rfl, rfl, ⟨b1, d1, rfl, Own.seg O1.out, fun q e => Nat.lt_of_lt_of_le hgr (Own.inb O1.out q e)⟩, rfl, ⟨b2, d2, rfl, Own.seg O2.out, fun q e => Nat.lt_of_lt_of_le hgr (Own.inb O2.out q e)⟩, rfl, ⟨b3, d3, rfl, V.Own.seg O3.out, fun q e => Nat.lt_of_lt_of_le hgr (V.Own.inb O3.out q e)⟩, trivial⟩)
      have hst := st_cells w.heap.size [Value.string nm, Value.bool n1, Value.slice b1 xs1.length d1, Value.bool m1, Value.slice b2 ys1.length d2, Value.int .i64 den2, Value.slice b3 ps2.length d3] (k * 7) _ _ (St.refl _ w2)
      simp only [World.setCells, Nat.add_assoc, Nat.reduceAdd] at hput hst
      exact ⟨⟨k + 1, by omega, by go_num, hide hput, hide (St.below hbb.out hst (Nat.le_refl _))⟩, by simp [intOf]; omega⟩
    · obtain rfl : k = n := by omega
      go_wp2
      go_ret
      exact ⟨_, rfl, hm.out, hb.out⟩


set_option maxHeartbeats 4000000 in
set_option maxRecDepth 20000 in
theorem eqUn (nm : ByteArray) (n1 : Bool) (xs1 : List Nat) (m1 : Bool) (ys1 : List Nat) (den2 : Int) (ps2 : List Int) (a1 : Option Addr) (c1 : Nat) (a2 : Option Addr) (c2 : Nat) (a3 : Option Addr) (c3 : Nat) (b1 : Option Addr) (d1 : Nat) (b2 : Option Addr) (d2 : Nat) (b3 : Option Addr) (d3 : Nat) (w : World) (s1 : Seg w a1 xs1.length c1 xs1) (s2 : Seg w a2 ys1.length c2 ys1) (s3 : V.Seg w a3 ps2.length c3 ps2) (r1 : Seg w b1 xs1.length d1 xs1) (r2 : Seg w b2 ys1.length d2 ys1) (r3 : V.Seg w b3 ps2.length d3 ps2) :
    Calls Tryz.prog 57 #[Value.agg #[Value.string nm, Value.bool n1, Value.slice a1 xs1.length c1, Value.bool m1, Value.slice a2 ys1.length c2, Value.int .i64 den2, Value.slice a3 ps2.length c3], Value.agg #[Value.string nm, Value.bool n1, Value.slice b1 xs1.length d1, Value.bool m1, Value.slice b2 ys1.length d2, Value.int .i64 den2, Value.slice b3 ps2.length d3]] w fun e w' => e = .returned (.bool true) ∧ Below w.heap.size w w' := by
  have S1 := hide s1
  have R1 := hide r1
  have S2 := hide s2
  have R2 := hide r2
  have S3 := hide s3
  have R3 := hide r3
  clear s1 r1 s2 r2 s3 r3
  have Xa : Hid (((w.alloc (Obj.cells #[Value.string nm, Value.bool n1, Value.slice a1 xs1.length c1, Value.bool m1, Value.slice a2 ys1.length c2, Value.int .i64 den2, Value.slice a3 ps2.length c3] 59)).alloc (Obj.cells #[Value.string nm, Value.bool n1, Value.slice b1 xs1.length d1, Value.bool m1, Value.slice b2 ys1.length d2, Value.int .i64 den2, Value.slice b3 ps2.length d3] 59)).heap[w.heap.size]? = some (.cells #[Value.string nm, Value.bool n1, Value.slice a1 xs1.length c1, Value.bool m1, Value.slice a2 ys1.length c2, Value.int .i64 den2, Value.slice a3 ps2.length c3] 59 (0, 0))) := hide (by simpa only [World.size_alloc] using (hnewer (hnew w (Obj.cells #[Value.string nm, Value.bool n1, Value.slice a1 xs1.length c1, Value.bool m1, Value.slice a2 ys1.length c2, Value.int .i64 den2, Value.slice a3 ps2.length c3] 59)) (Obj.cells #[Value.string nm, Value.bool n1, Value.slice b1 xs1.length d1, Value.bool m1, Value.slice b2 ys1.length d2, Value.int .i64 den2, Value.slice b3 ps2.length d3] 59)))
  have Xb : Hid (((w.alloc (Obj.cells #[Value.string nm, Value.bool n1, Value.slice a1 xs1.length c1, Value.bool m1, Value.slice a2 ys1.length c2, Value.int .i64 den2, Value.slice a3 ps2.length c3] 59)).alloc (Obj.cells #[Value.string nm, Value.bool n1, Value.slice b1 xs1.length d1, Value.bool m1, Value.slice b2 ys1.length d2, Value.int .i64 den2, Value.slice b3 ps2.length d3] 59)).heap[w.heap.size + 1]? = some (.cells #[Value.string nm, Value.bool n1, Value.slice b1 xs1.length d1, Value.bool m1, Value.slice b2 ys1.length d2, Value.int .i64 den2, Value.slice b3 ps2.length d3] 59 (0, 0))) := hide (by simpa only [World.size_alloc] using (hnew (w.alloc (Obj.cells #[Value.string nm, Value.bool n1, Value.slice a1 xs1.length c1, Value.bool m1, Value.slice a2 ys1.length c2, Value.int .i64 den2, Value.slice a3 ps2.length c3] 59)) (Obj.cells #[Value.string nm, Value.bool n1, Value.slice b1 xs1.length d1, Value.bool m1, Value.slice b2 ys1.length d2, Value.int .i64 den2, Value.slice b3 ps2.length d3] 59)))
  have HB : Hid (Below w.heap.size w ((w.alloc (Obj.cells #[Value.string nm, Value.bool n1, Value.slice a1 xs1.length c1, Value.bool m1, Value.slice a2 ys1.length c2, Value.int .i64 den2, Value.slice a3 ps2.length c3] 59)).alloc (Obj.cells #[Value.string nm, Value.bool n1, Value.slice b1 xs1.length d1, Value.bool m1, Value.slice b2 ys1.length d2, Value.int .i64 den2, Value.slice b3 ps2.length d3] 59))) := hide (bl_alloc (bl_alloc (bl_refl w) (Obj.cells #[Value.string nm, Value.bool n1, Value.slice a1 xs1.length c1, Value.bool m1, Value.slice a2 ys1.length c2, Value.int .i64 den2, Value.slice a3 ps2.length c3] 59)) (Obj.cells #[Value.string nm, Value.bool n1, Value.slice b1 xs1.length d1, Value.bool m1, Value.slice b2 ys1.length d2, Value.int .i64 den2, Value.slice b3 ps2.length d3] 59))
  have yw1 : w.heap.size + 2 ≤ ((w.alloc (Obj.cells #[Value.string nm, Value.bool n1, Value.slice a1 xs1.length c1, Value.bool m1, Value.slice a2 ys1.length c2, Value.int .i64 den2, Value.slice a3 ps2.length c3] 59)).alloc (Obj.cells #[Value.string nm, Value.bool n1, Value.slice b1 xs1.length d1, Value.bool m1, Value.slice b2 ys1.length d2, Value.int .i64 den2, Value.slice b3 ps2.length d3] 59)).heap.size := by simp only [World.size_alloc]; omega
  have ka0 : ((w.alloc (Obj.cells #[Value.string nm, Value.bool n1, Value.slice a1 xs1.length c1, Value.bool m1, Value.slice a2 ys1.length c2, Value.int .i64 den2, Value.slice a3 ps2.length c3] 59)).alloc (Obj.cells #[Value.string nm, Value.bool n1, Value.slice b1 xs1.length d1, Value.bool m1, Value.slice b2 ys1.length d2, Value.int .i64 den2, Value.slice b3 ps2.length d3] 59)).cell? ⟨w.heap.size, 0, none⟩ = some (Value.string nm) := (Lib.cell_of_heap Xa.out 0).trans rfl
  have fa0 : ((w.alloc (Obj.cells #[Value.string nm, Value.bool n1, Value.slice a1 xs1.length c1, Value.bool m1, Value.slice a2 ys1.length c2, Value.int .i64 den2, Value.slice a3 ps2.length c3] 59)).alloc (Obj.cells #[Value.string nm, Value.bool n1, Value.slice b1 xs1.length d1, Value.bool m1, Value.slice b2 ys1.length d2, Value.int .i64 den2, Value.slice b3 ps2.length d3] 59)).frozen? ⟨w.heap.size, 0, none⟩ = false := Lib.frozen_of_heap Xa.out 0
  have ka1 : ((w.alloc (Obj.cells #[Value.string nm, Value.bool n1, Value.slice a1 xs1.length c1, Value.bool m1, Value.slice a2 ys1.length c2, Value.int .i64 den2, Value.slice a3 ps2.length c3] 59)).alloc (Obj.cells #[Value.string nm, Value.bool n1, Value.slice b1 xs1.length d1, Value.bool m1, Value.slice b2 ys1.length d2, Value.int .i64 den2, Value.slice b3 ps2.length d3] 59)).cell? ⟨w.heap.size, 1, none⟩ = some (Value.bool n1) := (Lib.cell_of_heap Xa.out 1).trans rfl
  have fa1 : ((w.alloc (Obj.cells #[Value.string nm, Value.bool n1, Value.slice a1 xs1.length c1, Value.bool m1, Value.slice a2 ys1.length c2, Value.int .i64 den2, Value.slice a3 ps2.length c3] 59)).alloc (Obj.cells #[Value.string nm, Value.bool n1, Value.slice b1 xs1.length d1, Value.bool m1, Value.slice b2 ys1.length d2, Value.int .i64 den2, Value.slice b3 ps2.length d3] 59)).frozen? ⟨w.heap.size, 1, none⟩ = false := Lib.frozen_of_heap Xa.out 1
  have ka2 : ((w.alloc (Obj.cells #[Value.string nm, Value.bool n1, Value.slice a1 xs1.length c1, Value.bool m1, Value.slice a2 ys1.length c2, Value.int .i64 den2, Value.slice a3 ps2.length c3] 59)).alloc (Obj.cells #[Value.string nm, Value.bool n1, Value.slice b1 xs1.length d1, Value.bool m1, Value.slice b2 ys1.length d2, Value.int .i64 den2, Value.slice b3 ps2.length d3] 59)).cell? ⟨w.heap.size, 2, none⟩ = some (Value.slice a1 xs1.length c1) := (Lib.cell_of_heap Xa.out 2).trans rfl
  have fa2 : ((w.alloc (Obj.cells #[Value.string nm, Value.bool n1, Value.slice a1 xs1.length c1, Value.bool m1, Value.slice a2 ys1.length c2, Value.int .i64 den2, Value.slice a3 ps2.length c3] 59)).alloc (Obj.cells #[Value.string nm, Value.bool n1, Value.slice b1 xs1.length d1, Value.bool m1, Value.slice b2 ys1.length d2, Value.int .i64 den2, Value.slice b3 ps2.length d3] 59)).frozen? ⟨w.heap.size, 2, none⟩ = false := Lib.frozen_of_heap Xa.out 2
  have ka3 : ((w.alloc (Obj.cells #[Value.string nm, Value.bool n1, Value.slice a1 xs1.length c1, Value.bool m1, Value.slice a2 ys1.length c2, Value.int .i64 den2, Value.slice a3 ps2.length c3] 59)).alloc (Obj.cells #[Value.string nm, Value.bool n1, Value.slice b1 xs1.length d1, Value.bool m1, Value.slice b2 ys1.length d2, Value.int .i64 den2, Value.slice b3 ps2.length d3] 59)).cell? ⟨w.heap.size, 3, none⟩ = some (Value.bool m1) := (Lib.cell_of_heap Xa.out 3).trans rfl
  have fa3 : ((w.alloc (Obj.cells #[Value.string nm, Value.bool n1, Value.slice a1 xs1.length c1, Value.bool m1, Value.slice a2 ys1.length c2, Value.int .i64 den2, Value.slice a3 ps2.length c3] 59)).alloc (Obj.cells #[Value.string nm, Value.bool n1, Value.slice b1 xs1.length d1, Value.bool m1, Value.slice b2 ys1.length d2, Value.int .i64 den2, Value.slice b3 ps2.length d3] 59)).frozen? ⟨w.heap.size, 3, none⟩ = false := Lib.frozen_of_heap Xa.out 3
  have ka4 : ((w.alloc (Obj.cells #[Value.string nm, Value.bool n1, Value.slice a1 xs1.length c1, Value.bool m1, Value.slice a2 ys1.length c2, Value.int .i64 den2, Value.slice a3 ps2.length c3] 59)).alloc (Obj.cells #[Value.string nm, Value.bool n1, Value.slice b1 xs1.length d1, Value.bool m1, Value.slice b2 ys1.length d2, Value.int .i64 den2, Value.slice b3 ps2.length d3] 59)).cell? ⟨w.heap.size, 4, none⟩ = some (Value.slice a2 ys1.length c2) := (Lib.cell_of_heap Xa.out 4).trans rfl
  have fa4 : ((w.alloc (Obj.cells #[Value.string nm, Value.bool n1, Value.slice a1 xs1.length c1, Value.bool m1, Value.slice a2 ys1.length c2, Value.int .i64 den2, Value.slice a3 ps2.length c3] 59)).alloc (Obj.cells #[Value.string nm, Value.bool n1, Value.slice b1 xs1.length d1, Value.bool m1, Value.slice b2 ys1.length d2, Value.int .i64 den2, Value.slice b3 ps2.length d3] 59)).frozen? ⟨w.heap.size, 4, none⟩ = false := Lib.frozen_of_heap Xa.out 4
  have ka5 : ((w.alloc (Obj.cells #[Value.string nm, Value.bool n1, Value.slice a1 xs1.length c1, Value.bool m1, Value.slice a2 ys1.length c2, Value.int .i64 den2, Value.slice a3 ps2.length c3] 59)).alloc (Obj.cells #[Value.string nm, Value.bool n1, Value.slice b1 xs1.length d1, Value.bool m1, Value.slice b2 ys1.length d2, Value.int .i64 den2, Value.slice b3 ps2.length d3] 59)).cell? ⟨w.heap.size, 5, none⟩ = some (Value.int .i64 den2) := (Lib.cell_of_heap Xa.out 5).trans rfl
  have fa5 : ((w.alloc (Obj.cells #[Value.string nm, Value.bool n1, Value.slice a1 xs1.length c1, Value.bool m1, Value.slice a2 ys1.length c2, Value.int .i64 den2, Value.slice a3 ps2.length c3] 59)).alloc (Obj.cells #[Value.string nm, Value.bool n1, Value.slice b1 xs1.length d1, Value.bool m1, Value.slice b2 ys1.length d2, Value.int .i64 den2, Value.slice b3 ps2.length d3] 59)).frozen? ⟨w.heap.size, 5, none⟩ = false := Lib.frozen_of_heap Xa.out 5
  have ka6 : ((w.alloc (Obj.cells #[Value.string nm, Value.bool n1, Value.slice a1 xs1.length c1, Value.bool m1, Value.slice a2 ys1.length c2, Value.int .i64 den2, Value.slice a3 ps2.length c3] 59)).alloc (Obj.cells #[Value.string nm, Value.bool n1, Value.slice b1 xs1.length d1, Value.bool m1, Value.slice b2 ys1.length d2, Value.int .i64 den2, Value.slice b3 ps2.length d3] 59)).cell? ⟨w.heap.size, 6, none⟩ = some (Value.slice a3 ps2.length c3) := (Lib.cell_of_heap Xa.out 6).trans rfl
  have fa6 : ((w.alloc (Obj.cells #[Value.string nm, Value.bool n1, Value.slice a1 xs1.length c1, Value.bool m1, Value.slice a2 ys1.length c2, Value.int .i64 den2, Value.slice a3 ps2.length c3] 59)).alloc (Obj.cells #[Value.string nm, Value.bool n1, Value.slice b1 xs1.length d1, Value.bool m1, Value.slice b2 ys1.length d2, Value.int .i64 den2, Value.slice b3 ps2.length d3] 59)).frozen? ⟨w.heap.size, 6, none⟩ = false := Lib.frozen_of_heap Xa.out 6
  have za : w.heap.size < ((w.alloc (Obj.cells #[Value.string nm, Value.bool n1, Value.slice a1 xs1.length c1, Value.bool m1, Value.slice a2 ys1.length c2, Value.int .i64 den2, Value.slice a3 ps2.length c3] 59)).alloc (Obj.cells #[Value.string nm, Value.bool n1, Value.slice b1 xs1.length d1, Value.bool m1, Value.slice b2 ys1.length d2, Value.int .i64 den2, Value.slice b3 ps2.length d3] 59)).heap.size := hlt Xa.out
  have kb0 : ((w.alloc (Obj.cells #[Value.string nm, Value.bool n1, Value.slice a1 xs1.length c1, Value.bool m1, Value.slice a2 ys1.length c2, Value.int .i64 den2, Value.slice a3 ps2.length c3] 59)).alloc (Obj.cells #[Value.string nm, Value.bool n1, Value.slice b1 xs1.length d1, Value.bool m1, Value.slice b2 ys1.length d2, Value.int .i64 den2, Value.slice b3 ps2.length d3] 59)).cell? ⟨w.heap.size + 1, 0, none⟩ = some (Value.string nm) := (Lib.cell_of_heap Xb.out 0).trans rfl
  have fb0 : ((w.alloc (Obj.cells #[Value.string nm, Value.bool n1, Value.slice a1 xs1.length c1, Value.bool m1, Value.slice a2 ys1.length c2, Value.int .i64 den2, Value.slice a3 ps2.length c3] 59)).alloc (Obj.cells #[Value.string nm, Value.bool n1, Value.slice b1 xs1.length d1, Value.bool m1, Value.slice b2 ys1.length d2, Value.int .i64 den2, Value.slice b3 ps2.length d3] 59)).frozen? ⟨w.heap.size + 1, 0, none⟩ = false := Lib.frozen_of_heap Xb.out 0
  have kb1 : ((w.alloc (Obj.cells #[Value.string nm, Value.bool n1, Value.slice a1 xs1.length c1, Value.bool m1, Value.slice a2 ys1.length c2, Value.int .i64 den2, Value.slice a3 ps2.length c3] 59)).alloc (Obj.cells #[Value.string nm, Value.bool n1, Value.slice b1 xs1.length d1, Value.bool m1, Value.slice b2 ys1.length d2, Value.int .i64 den2, Value.slice b3 ps2.length d3] 59)).cell? ⟨w.heap.size + 1, 1, none⟩ = some (Value.bool n1) := (Lib.cell_of_heap Xb.out 1).trans rfl
  have fb1 : ((w.alloc (Obj.cells #[Value.string nm, Value.bool n1, Value.slice a1 xs1.length c1, Value.bool m1, Value.slice a2 ys1.length c2, Value.int .i64 den2, Value.slice a3 ps2.length c3] 59)).alloc (Obj.cells #[Value.string nm, Value.bool n1, Value.slice b1 xs1.length d1, Value.bool m1, Value.slice b2 ys1.length d2, Value.int .i64 den2, Value.slice b3 ps2.length d3] 59)).frozen? ⟨w.heap.size + 1, 1, none⟩ = false := Lib.frozen_of_heap Xb.out 1
  have kb2 : ((w.alloc (Obj.cells #[Value.string nm, Value.bool n1, Value.slice a1 xs1.length c1, Value.bool m1, Value.slice a2 ys1.length c2, Value.int .i64 den2, Value.slice a3 ps2.length c3] 59)).alloc (Obj.cells #[Value.string nm, Value.bool n1, Value.slice b1 xs1.length d1, Value.bool m1, Value.slice b2 ys1.length d2, Value.int .i64 den2, Value.slice b3 ps2.length d3] 59)).cell? ⟨w.heap.size + 1, 2, none⟩ = some (Value.slice b1 xs1.length d1) := (Lib.cell_of_heap Xb.out 2).trans rfl
  have fb2 : ((w.alloc (Obj.cells #[Value.string nm, Value.bool n1, Value.slice a1 xs1.length c1, Value.bool m1, Value.slice a2 ys1.length c2, Value.int .i64 den2, Value.slice a3 ps2.length c3] 59)).alloc (Obj.cells #[Value.string nm, Value.bool n1, Value.slice b1 xs1.length d1, Value.bool m1, Value.slice b2 ys1.length d2, Value.int .i64 den2, Value.slice b3 ps2.length d3] 59)).frozen? ⟨w.heap.size + 1, 2, none⟩ = false := Lib.frozen_of_heap Xb.out 2
  have kb3 : ((w.alloc (Obj.cells #[Value.string nm, Value.bool n1, Value.slice a1 xs1.length c1, Value.bool m1, Value.slice a2 ys1.length c2, Value.int .i64 den2, Value.slice a3 ps2.length c3] 59)).alloc (Obj.cells #[Value.string nm, Value.bool n1, Value.slice b1 xs1.length d1, Value.bool m1, Value.slice b2 ys1.length d2, Value.int .i64 den2, Value.slice b3 ps2.length d3] 59)).cell? ⟨w.heap.size + 1, 3, none⟩ = some (Value.bool m1) := (Lib.cell_of_heap Xb.out 3).trans rfl
  have fb3 : ((w.alloc (Obj.cells #[Value.string nm, Value.bool n1, Value.slice a1 xs1.length c1, Value.bool m1, Value.slice a2 ys1.length c2, Value.int .i64 den2, Value.slice a3 ps2.length c3] 59)).alloc (Obj.cells #[Value.string nm, Value.bool n1, Value.slice b1 xs1.length d1, Value.bool m1, Value.slice b2 ys1.length d2, Value.int .i64 den2, Value.slice b3 ps2.length d3] 59)).frozen? ⟨w.heap.size + 1, 3, none⟩ = false := Lib.frozen_of_heap Xb.out 3
  have kb4 : ((w.alloc (Obj.cells #[Value.string nm, Value.bool n1, Value.slice a1 xs1.length c1, Value.bool m1, Value.slice a2 ys1.length c2, Value.int .i64 den2, Value.slice a3 ps2.length c3] 59)).alloc (Obj.cells #[Value.string nm, Value.bool n1, Value.slice b1 xs1.length d1, Value.bool m1, Value.slice b2 ys1.length d2, Value.int .i64 den2, Value.slice b3 ps2.length d3] 59)).cell? ⟨w.heap.size + 1, 4, none⟩ = some (Value.slice b2 ys1.length d2) := (Lib.cell_of_heap Xb.out 4).trans rfl
  have fb4 : ((w.alloc (Obj.cells #[Value.string nm, Value.bool n1, Value.slice a1 xs1.length c1, Value.bool m1, Value.slice a2 ys1.length c2, Value.int .i64 den2, Value.slice a3 ps2.length c3] 59)).alloc (Obj.cells #[Value.string nm, Value.bool n1, Value.slice b1 xs1.length d1, Value.bool m1, Value.slice b2 ys1.length d2, Value.int .i64 den2, Value.slice b3 ps2.length d3] 59)).frozen? ⟨w.heap.size + 1, 4, none⟩ = false := Lib.frozen_of_heap Xb.out 4
  have kb5 : ((w.alloc (Obj.cells #[Value.string nm, Value.bool n1, Value.slice a1 xs1.length c1, Value.bool m1, Value.slice a2 ys1.length c2, Value.int .i64 den2, Value.slice a3 ps2.length c3] 59)).alloc (Obj.cells #[Value.string nm, Value.bool n1, Value.slice b1 xs1.length d1, Value.bool m1, Value.slice b2 ys1.length d2, Value.int .i64 den2, Value.slice b3 ps2.length d3] 59)).cell? ⟨w.heap.size + 1, 5, none⟩ = some (Value.int .i64 den2) := (Lib.cell_of_heap Xb.out 5).trans rfl
  have fb5 : ((w.alloc (Obj.cells #[Value.string nm, Value.bool n1, Value.slice a1 xs1.length c1, Value.bool m1, Value.slice a2 ys1.length c2, Value.int .i64 den2, Value.slice a3 ps2.length c3] 59)).alloc (Obj.cells #[Value.string nm, Value.bool n1, Value.slice b1 xs1.length d1, Value.bool m1, Value.slice b2 ys1.length d2, Value.int .i64 den2, Value.slice b3 ps2.length d3] 59)).frozen? ⟨w.heap.size + 1, 5, none⟩ = false := Lib.frozen_of_heap Xb.out 5
  have kb6 : ((w.alloc (Obj.cells #[Value.string nm, Value.bool n1, Value.slice a1 xs1.length c1, Value.bool m1, Value.slice a2 ys1.length c2, Value.int .i64 den2, Value.slice a3 ps2.length c3] 59)).alloc (Obj.cells #[Value.string nm, Value.bool n1, Value.slice b1 xs1.length d1, Value.bool m1, Value.slice b2 ys1.length d2, Value.int .i64 den2, Value.slice b3 ps2.length d3] 59)).cell? ⟨w.heap.size + 1, 6, none⟩ = some (Value.slice b3 ps2.length d3) := (Lib.cell_of_heap Xb.out 6).trans rfl
  have fb6 : ((w.alloc (Obj.cells #[Value.string nm, Value.bool n1, Value.slice a1 xs1.length c1, Value.bool m1, Value.slice a2 ys1.length c2, Value.int .i64 den2, Value.slice a3 ps2.length c3] 59)).alloc (Obj.cells #[Value.string nm, Value.bool n1, Value.slice b1 xs1.length d1, Value.bool m1, Value.slice b2 ys1.length d2, Value.int .i64 den2, Value.slice b3 ps2.length d3] 59)).frozen? ⟨w.heap.size + 1, 6, none⟩ = false := Lib.frozen_of_heap Xb.out 6
  have zb : w.heap.size + 1 < ((w.alloc (Obj.cells #[Value.string nm, Value.bool n1, Value.slice a1 xs1.length c1, Value.bool m1, Value.slice a2 ys1.length c2, Value.int .i64 den2, Value.slice a3 ps2.length c3] 59)).alloc (Obj.cells #[Value.string nm, Value.bool n1, Value.slice b1 xs1.length d1, Value.bool m1, Value.slice b2 ys1.length d2, Value.int .i64 den2, Value.slice b3 ps2.length d3] 59)).heap.size := hlt Xb.out
  go_enter Tryz.func57, Tryz.ntmps57
  go_wp2_with fail
  generalize ((w.alloc (Obj.cells #[Value.string nm, Value.bool n1, Value.slice a1 xs1.length c1, Value.bool m1, Value.slice a2 ys1.length c2, Value.int .i64 den2, Value.slice a3 ps2.length c3] 59)).alloc (Obj.cells #[Value.string nm, Value.bool n1, Value.slice b1 xs1.length d1, Value.bool m1, Value.slice b2 ys1.length d2, Value.int .i64 den2, Value.slice b3 ps2.length d3] 59)) = w1 at *
  refine (eqR n1 xs1 m1 ys1 a1 c1 a2 c2 b1 d1 b2 d2 _ (S1.out.below HB.out) (S2.out.below HB.out) (R1.out.below HB.out) (R2.out.below HB.out)).mono ?_
  rintro e w2 ⟨rfl, hb⟩
  have yw2 := hb.size
  clear ka0 fa0 ka1 fa1 ka2 fa2 ka3 fa3 ka4 fa4 ka5 fa5 ka6 fa6 za
  clear kb0 fb0 kb1 fb1 kb2 fb2 kb3 fb3 kb4 fb4 kb5 fb5 kb6 fb6 zb
  replace Xa := hide (hbel Xa.out hb (by first | assumption | omega))
  replace Xb := hide (hbel Xb.out hb (by first | assumption | omega))
  replace HB := hide (bl_trans HB.out hb)
  clear hb
  have ka0 : w2.cell? ⟨w.heap.size, 0, none⟩ = some (Value.string nm) := (Lib.cell_of_heap Xa.out 0).trans rfl
  have fa0 : w2.frozen? ⟨w.heap.size, 0, none⟩ = false := Lib.frozen_of_heap Xa.out 0
  have ka1 : w2.cell? ⟨w.heap.size, 1, none⟩ = some (Value.bool n1) := (Lib.cell_of_heap Xa.out 1).trans rfl
  have fa1 : w2.frozen? ⟨w.heap.size, 1, none⟩ = false := Lib.frozen_of_heap Xa.out 1
  have ka2 : w2.cell? ⟨w.heap.size, 2, none⟩ = some (Value.slice a1 xs1.length c1) := (Lib.cell_of_heap Xa.out 2).trans rfl
  have fa2 : w2.frozen? ⟨w.heap.size, 2, none⟩ = false := Lib.frozen_of_heap Xa.out 2
  have ka3 : w2.cell? ⟨w.heap.size, 3, none⟩ = some (Value.bool m1) := (Lib.cell_of_heap Xa.out 3).trans rfl
  have fa3 : w2.frozen? ⟨w.heap.size, 3, none⟩ = false := Lib.frozen_of_heap Xa.out 3
  have ka4 : w2.cell? ⟨w.heap.size, 4, none⟩ = some (Value.slice a2 ys1.length c2) := (Lib.cell_of_heap Xa.out 4).trans rfl
  have fa4 : w2.frozen? ⟨w.heap.size, 4, none⟩ = false := Lib.frozen_of_heap Xa.out 4
  have ka5 : w2.cell? ⟨w.heap.size, 5, none⟩ = some (Value.int .i64 den2) := (Lib.cell_of_heap Xa.out 5).trans rfl
  have fa5 : w2.frozen? ⟨w.heap.size, 5, none⟩ = false := Lib.frozen_of_heap Xa.out 5
  have ka6 : w2.cell? ⟨w.heap.size, 6, none⟩ = some (Value.slice a3 ps2.length c3) := (Lib.cell_of_heap Xa.out 6).trans rfl
  have fa6 : w2.frozen? ⟨w.heap.size, 6, none⟩ = false := Lib.frozen_of_heap Xa.out 6
  have za : w.heap.size < w2.heap.size := hlt Xa.out
  have kb0 : w2.cell? ⟨w.heap.size + 1, 0, none⟩ = some (Value.string nm) := (Lib.cell_of_heap Xb.out 0).trans rfl
  have fb0 : w2.frozen? ⟨w.heap.size + 1, 0, none⟩ = false := Lib.frozen_of_heap Xb.out 0
  have kb1 : w2.cell? ⟨w.heap.size + 1, 1, none⟩ = some (Value.bool n1) := (Lib.cell_of_heap Xb.out 1).trans rfl
  have fb1 : w2.frozen? ⟨w.heap.size + 1, 1, none⟩ = false := Lib.frozen_of_heap Xb.out 1
  have kb2 : w2.cell? ⟨w.heap.size + 1, 2, none⟩ = some (Value.slice b1 xs1.length d1) := (Lib.cell_of_heap Xb.out 2).trans rfl
  have fb2 : w2.frozen? ⟨w.heap.size + 1, 2, none⟩ = false := Lib.frozen_of_heap Xb.out 2
  have kb3 : w2.cell? ⟨w.heap.size + 1, 3, none⟩ = some (Value.bool m1) := (Lib.cell_of_heap Xb.out 3).trans rfl
  have fb3 : w2.frozen? ⟨w.heap.size + 1, 3, none⟩ = false := Lib.frozen_of_heap Xb.out 3
  have kb4 : w2.cell? ⟨w.heap.size + 1, 4, none⟩ = some (Value.slice b2 ys1.length d2) := (Lib.cell_of_heap Xb.out 4).trans rfl
  have fb4 : w2.frozen? ⟨w.heap.size + 1, 4, none⟩ = false := Lib.frozen_of_heap Xb.out 4
  have kb5 : w2.cell? ⟨w.heap.size + 1, 5, none⟩ = some (Value.int .i64 den2) := (Lib.cell_of_heap Xb.out 5).trans rfl
  have fb5 : w2.frozen? ⟨w.heap.size + 1, 5, none⟩ = false := Lib.frozen_of_heap Xb.out 5
  have kb6 : w2.cell? ⟨w.heap.size + 1, 6, none⟩ = some (Value.slice b3 ps2.length d3) := (Lib.cell_of_heap Xb.out 6).trans rfl
  have fb6 : w2.frozen? ⟨w.heap.size + 1, 6, none⟩ = false := Lib.frozen_of_heap Xb.out 6
  have zb : w.heap.size + 1 < w2.heap.size := hlt Xb.out
  go_wp2_with fail
  refine (V.eqB _ _ den2 ps2 _ ⟨a3, c3, rfl, S3.out.below HB.out⟩ ⟨b3, d3, rfl, R3.out.below HB.out⟩).mono ?_
  rintro e w3 ⟨rfl, hb⟩
  have yw3 := hb.size
  clear ka0 fa0 ka1 fa1 ka2 fa2 ka3 fa3 ka4 fa4 ka5 fa5 ka6 fa6 za
  clear kb0 fb0 kb1 fb1 kb2 fb2 kb3 fb3 kb4 fb4 kb5 fb5 kb6 fb6 zb
  replace Xa := hide (hbel Xa.out hb (by first | assumption | omega))
  replace Xb := hide (hbel Xb.out hb (by first | assumption | omega))
  replace HB := hide (bl_trans HB.out hb)
  clear hb
  have ka0 : w3.cell? ⟨w.heap.size, 0, none⟩ = some (Value.string nm) := (Lib.cell_of_heap Xa.out 0).trans rfl
  have fa0 : w3.frozen? ⟨w.heap.size, 0, none⟩ = false := Lib.frozen_of_heap Xa.out 0
  have ka1 : w3.cell? ⟨w.heap.size, 1, none⟩ = some (Value.bool n1) := (Lib.cell_of_heap Xa.out 1).trans rfl
  have fa1 : w3.frozen? ⟨w.heap.size, 1, none⟩ = false := Lib.frozen_of_heap Xa.out 1
  have ka2 : w3.cell? ⟨w.heap.size, 2, none⟩ = some (Value.slice a1 xs1.length c1) := (Lib.cell_of_heap Xa.out 2).trans rfl
  have fa2 : w3.frozen? ⟨w.heap.size, 2, none⟩ = false := Lib.frozen_of_heap Xa.out 2
  have ka3 : w3.cell? ⟨w.heap.size, 3, none⟩ = some (Value.bool m1) := (Lib.cell_of_heap Xa.out 3).trans rfl
  have fa3 : w3.frozen? ⟨w.heap.size, 3, none⟩ = false := Lib.frozen_of_heap Xa.out 3
  have ka4 : w3.cell? ⟨w.heap.size, 4, none⟩ = some (Value.slice a2 ys1.length c2) := (Lib.cell_of_heap Xa.out 4).trans rfl
  have fa4 : w3.frozen? ⟨w.heap.size, 4, none⟩ = false := Lib.frozen_of_heap Xa.out 4
  have ka5 : w3.cell? ⟨w.heap.size, 5, none⟩ = some (Value.int .i64 den2) := (Lib.cell_of_heap Xa.out 5).trans rfl
  have fa5 : w3.frozen? ⟨w.heap.size, 5, none⟩ = false := Lib.frozen_of_heap Xa.out 5
  have ka6 : w3.cell? ⟨w.heap.size, 6, none⟩ = some (Value.slice a3 ps2.length c3) := (Lib.cell_of_heap Xa.out 6).trans rfl
  have fa6 : w3.frozen? ⟨w.heap.size, 6, none⟩ = false := Lib.frozen_of_heap Xa.out 6
  have za : w.heap.size < w3.heap.size := hlt Xa.out
  have kb0 : w3.cell? ⟨w.heap.size + 1, 0, none⟩ = some (Value.string nm) := (Lib.cell_of_heap Xb.out 0).trans rfl
  have fb0 : w3.frozen? ⟨w.heap.size + 1, 0, none⟩ = false := Lib.frozen_of_heap Xb.out 0
  have kb1 : w3.cell? ⟨w.heap.size + 1, 1, none⟩ = some (Value.bool n1) := (Lib.cell_of_heap Xb.out 1).trans rfl
  have fb1 : w3.frozen? ⟨w.heap.size + 1, 1, none⟩ = false := Lib.frozen_of_heap Xb.out 1
  have kb2 : w3.cell? ⟨w.heap.size + 1, 2, none⟩ = some (Value.slice b1 xs1.length d1) := (Lib.cell_of_heap Xb.out 2).trans rfl
  have fb2 : w3.frozen? ⟨w.heap.size + 1, 2, none⟩ = false := Lib.frozen_of_heap Xb.out 2
  have kb3 : w3.cell? ⟨w.heap.size + 1, 3, none⟩ = some (Value.bool m1) := (Lib.cell_of_heap Xb.out 3).trans rfl
  have fb3 : w3.frozen? ⟨w.heap.size + 1, 3, none⟩ = false := Lib.frozen_of_heap Xb.out 3
  have kb4 : w3.cell? ⟨w.heap.size + 1, 4, none⟩ = some (Value.slice b2 ys1.length d2) := (Lib.cell_of_heap Xb.out 4).trans rfl
  have fb4 : w3.frozen? ⟨w.heap.size + 1, 4, none⟩ = false := Lib.frozen_of_heap Xb.out 4
  have kb5 : w3.cell? ⟨w.heap.size + 1, 5, none⟩ = some (Value.int .i64 den2) := (Lib.cell_of_heap Xb.out 5).trans rfl
  have fb5 : w3.frozen? ⟨w.heap.size + 1, 5, none⟩ = false := Lib.frozen_of_heap Xb.out 5
  have kb6 : w3.cell? ⟨w.heap.size + 1, 6, none⟩ = some (Value.slice b3 ps2.length d3) := (Lib.cell_of_heap Xb.out 6).trans rfl
  have fb6 : w3.frozen? ⟨w.heap.size + 1, 6, none⟩ = false := Lib.frozen_of_heap Xb.out 6
  have zb : w.heap.size + 1 < w3.heap.size := hlt Xb.out
  go_wp2
  go_ret
  exact ⟨rfl, HB.out⟩

set_option maxHeartbeats 4000000 in
set_option maxRecDepth 20000 in
theorem eqUnS (a b : Option Addr) (n ca cb : Nat) (X Y : Nat → Prop) (rs : List (List Lf)) (w : World) (h1 : RSeg w X 7 a n ca rs) (h2 : RSeg w Y 7 b n cb rs) (hsh : ∀ r ∈ rs, ShUn r) :
    Calls Tryz.prog 33 #[.slice a n ca, .slice b n cb] w fun e w' => e = .returned (.bool true) ∧ Below w.heap.size w w' := by
  have hxl := h1.1
  have hca := h1.2.1
  have hcma := h1.2.2.1
  have hcb := h2.2.1
  have hcmb := h2.2.2.1
  have HA := hide h1
  have HBB := hide h2
  clear h1 h2
  go_enter Tryz.func33, Tryz.ntmps33
  go_wp2
  go_loopw [5] (fun i wr => ∃ k : Nat, k ≤ n ∧ i = .int .i64 k ∧ Hid (Below w.heap.size w wr)) (fun i _ => n - (intOf i).toNat)
  case atStart => exact ⟨0, Nat.zero_le _, rfl, hide (bl_refl w)⟩
  case round =>
    obtain ⟨k, hk, rfl, hb⟩ := hrel
    by_cases hlt : k < n
    · have hlt' : (k : Int) < (n : Int) := by omega
      have hkx : k < rs.length := by omega
      obtain ⟨g, o, rfl, hg, hrec⟩ := (HA.out.below hb.out).at hkx
      obtain ⟨g2, o2, rfl, hg2, hrec2⟩ := (HBB.out.below hb.out).at hkx
      obtain ⟨nm, n1, xs1, m1, ys1, den2, ps2, er⟩ := hsh rs[k] (List.getElem_mem _)
      rw [er] at hrec hrec2
      clear er
      obtain ⟨a1, c1, a2, c2, a3, c3, t0, t1, t2, t3, t4, t5, t6, sg1, sg2, sg3, _⟩ := openUn hrec
      have H1 := hide sg1
      have H2 := hide sg2
      have H3 := hide sg3
      clear sg1 sg2 sg3
      obtain ⟨b1, d1, b2, d2, b3, d3, u0, u1, u2, u3, u4, u5, u6, rg1, rg2, rg3, _⟩ := openUn hrec2
      have R1 := hide rg1
      have R2 := hide rg2
      have R3 := hide rg3
      clear rg1 rg2 rg3
      go_wp2_with fail
      go_region_held3 (fun w' => w'.cell? ⟨g, o + k * 7, none⟩ = some (Value.string nm) ∧ w'.cell? ⟨g, o + k * 7 + 1, none⟩ = some (Value.bool n1) ∧ w'.cell? ⟨g, o + k * 7 + 2, none⟩ = some (Value.slice a1 xs1.length c1) ∧ w'.cell? ⟨g, o + k * 7 + 3, none⟩ = some (Value.bool m1) ∧ w'.cell? ⟨g, o + k * 7 + 4, none⟩ = some (Value.slice a2 ys1.length c2) ∧ w'.cell? ⟨g, o + k * 7 + 5, none⟩ = some (Value.int .i64 den2) ∧ w'.cell? ⟨g, o + k * 7 + 6, none⟩ = some (Value.slice a3 ps2.length c3) ∧ w'.cell? ⟨g2, o2 + k * 7, none⟩ = some (Value.string nm) ∧ w'.cell? ⟨g2, o2 + k * 7 + 1, none⟩ = some (Value.bool n1) ∧ w'.cell? ⟨g2, o2 + k * 7 + 2, none⟩ = some (Value.slice b1 xs1.length d1) ∧ w'.cell? ⟨g2, o2 + k * 7 + 3, none⟩ = some (Value.bool m1) ∧ w'.cell? ⟨g2, o2 + k * 7 + 4, none⟩ = some (Value.slice b2 ys1.length d2) ∧ w'.cell? ⟨g2, o2 + k * 7 + 5, none⟩ = some (Value.int .i64 den2) ∧ w'.cell? ⟨g2, o2 + k * 7 + 6, none⟩ = some (Value.slice b3 ps2.length d3))
        (first
          | exact ⟨t0, t1, t2, t3, t4, t5, t6, u0, u1, u2, u3, u4, u5, u6⟩
          | exact ⟨(hb2.cell (p := ⟨g, o + k * 7, none⟩) hg).trans t0, (hb2.cell (p := ⟨g, o + k * 7 + 1, none⟩) hg).trans t1, (hb2.cell (p := ⟨g, o + k * 7 + 2, none⟩) hg).trans t2, (hb2.cell (p := ⟨g, o + k * 7 + 3, none⟩) hg).trans t3, (hb2.cell (p := ⟨g, o + k * 7 + 4, none⟩) hg).trans t4, (hb2.cell (p := ⟨g, o + k * 7 + 5, none⟩) hg).trans t5, (hb2.cell (p := ⟨g, o + k * 7 + 6, none⟩) hg).trans t6, (hb2.cell (p := ⟨g2, o2 + k * 7, none⟩) hg2).trans u0, (hb2.cell (p := ⟨g2, o2 + k * 7 + 1, none⟩) hg2).trans u1, (hb2.cell (p := ⟨g2, o2 + k * 7 + 2, none⟩) hg2).trans u2, (hb2.cell (p := ⟨g2, o2 + k * 7 + 3, none⟩) hg2).trans u3, (hb2.cell (p := ⟨g2, o2 + k * 7 + 4, none⟩) hg2).trans u4, (hb2.cell (p := ⟨g2, o2 + k * 7 + 5, none⟩) hg2).trans u5, (hb2.cell (p := ⟨g2, o2 + k * 7 + 6, none⟩) hg2).trans u6⟩)
        (first
          | (go_at_call 57; refine (eqUn nm n1 xs1 m1 ys1 den2 ps2 a1 c1 a2 c2 a3 c3 b1 d1 b2 d2 b3 d3 _ (H1.out.below (bl_refl wr).drew) (H2.out.below (bl_refl wr).drew) (H3.out.below (bl_refl wr).drew) (R1.out.below (bl_refl wr).drew) (R2.out.below (bl_refl wr).drew) (R3.out.below (bl_refl wr).drew)).mono ?_; rintro e w2 ⟨rfl, hb2'⟩; have hb2 : Below wr.heap.size wr w2 := (bl_refl wr).drew.trans hb2'))
      all_goals go_wp2
      all_goals exact ⟨⟨k + 1, by omega, by go_num, hide (bl_trans hb.out hb2)⟩, by simp [intOf]; omega⟩
    · obtain rfl : k = n := by omega
      go_wp2
      go_ret
      exact ⟨rfl, hb.out⟩

end Go.Proofs.YtnjaejaibbgkpaaGreat

/- What the law asks of Prefixs and of lists of them: how great one is, a copy of one, whether two are alike. -/
namespace Go.Proofs.YtnjaejaibbgkpaaGreat
open Go.RowKit
set_option linter.unusedVariables false
set_option maxRecDepth 20000

/-- the shape of these records -/
def ShPf (r : List Lf) : Prop := ∃ nm n1 xs1 m1 ys1, r = [.t nm, .b n1, .l xs1, .b m1, .l ys1]

theorem openPf {W : World} {X : Nat → Prop} {g o : Nat} {nm : ByteArray} {n1 : Bool} {xs1 : List Nat} {m1 : Bool} {ys1 : List Nat} (h : Rec W X g o [.t nm, .b n1, .l xs1, .b m1, .l ys1]) : ∃ a1 c1 a2 c2, W.cell? ⟨g, o, none⟩ = some (Value.string nm) ∧ W.cell? ⟨g, o + 1, none⟩ = some (Value.bool n1) ∧ W.cell? ⟨g, o + 2, none⟩ = some (Value.slice a1 xs1.length c1) ∧ W.cell? ⟨g, o + 3, none⟩ = some (Value.bool m1) ∧ W.cell? ⟨g, o + 4, none⟩ = some (Value.slice a2 ys1.length c2) ∧ Seg W a1 xs1.length c1 xs1 ∧ Seg W a2 ys1.length c2 ys1 ∧ (∀ q, a1 = some q → X q.block) ∧ (∀ q, a2 = some q → X q.block) := by
  obtain ⟨t0, t1, ⟨a1, c1, t2, s1, x1⟩, t3, ⟨a2, c2, t4, s2, x2⟩, _⟩ := h
  exact ⟨a1, c1, a2, c2, t0, t1, t2, t3, t4, s1, s2, x1, x2⟩

set_option maxHeartbeats 4000000 in
set_option maxRecDepth 20000 in
theorem szPf (nm : ByteArray) (n1 : Bool) (xs1 : List Nat) (m1 : Bool) (ys1 : List Nat) (a1 : Option Addr) (c1 : Nat) (a2 : Option Addr) (c2 : Nat) (L : Int) (w : World) (s1 : Seg w a1 xs1.length c1 xs1) (s2 : Seg w a2 ys1.length c2 ys1) (hn0 : nm.size ≤ 9223372036854775807) (h0 : 0 ≤ L) (h1 : L ≤ 1048576) :
    Calls Tryz.prog 45 #[Value.agg #[Value.string nm, Value.bool n1, Value.slice a1 xs1.length c1, Value.bool m1, Value.slice a2 ys1.length c2], .int .i64 L] w fun e w' => e = .returned (.int .i64 (rleft L (rsz [.t nm, .b n1, .l xs1, .b m1, .l ys1]))) ∧ Below w.heap.size w w' := by
  have q1 := Seg.le s1
  have q2 := Seg.le s2
  have HZ : Hid (rsz [.t nm, .b n1, .l xs1, .b m1, .l ys1] = nm.size + (xs1.length + (ys1.length))) := hide (by simp [rsz, Lf.sz])
  clear s1 s2
  by_cases d1 : L - (nm.size : Int) < 0
  · have HB := hide (bl_alloc (bl_refl w) (Obj.cells #[Value.string nm, Value.bool n1, Value.slice a1 xs1.length c1, Value.bool m1, Value.slice a2 ys1.length c2] 89))
    go_enter Tryz.func45, Tryz.ntmps45
    go_wp2
    go_ret
    exact ⟨ret_int (by rw [HZ.out]; unfold rleft; rw [if_pos (by omega)]), HB.out⟩
  have Xa : Hid ((w.alloc (Obj.cells #[Value.string nm, Value.bool n1, Value.slice a1 xs1.length c1, Value.bool m1, Value.slice a2 ys1.length c2] 89)).heap[w.heap.size]? = some (.cells #[Value.string nm, Value.bool n1, Value.slice a1 xs1.length c1, Value.bool m1, Value.slice a2 ys1.length c2] 89 (0, 0))) := hide (by simpa only [World.size_alloc] using (hnew w (Obj.cells #[Value.string nm, Value.bool n1, Value.slice a1 xs1.length c1, Value.bool m1, Value.slice a2 ys1.length c2] 89)))
  have HB : Hid (Below w.heap.size w (w.alloc (Obj.cells #[Value.string nm, Value.bool n1, Value.slice a1 xs1.length c1, Value.bool m1, Value.slice a2 ys1.length c2] 89))) := hide (bl_alloc (bl_refl w) (Obj.cells #[Value.string nm, Value.bool n1, Value.slice a1 xs1.length c1, Value.bool m1, Value.slice a2 ys1.length c2] 89))
  have yw1 : w.heap.size + 1 ≤ (w.alloc (Obj.cells #[Value.string nm, Value.bool n1, Value.slice a1 xs1.length c1, Value.bool m1, Value.slice a2 ys1.length c2] 89)).heap.size := by simp only [World.size_alloc]; omega
  have ka0 : (w.alloc (Obj.cells #[Value.string nm, Value.bool n1, Value.slice a1 xs1.length c1, Value.bool m1, Value.slice a2 ys1.length c2] 89)).cell? ⟨w.heap.size, 0, none⟩ = some (Value.string nm) := (Lib.cell_of_heap Xa.out 0).trans rfl
  have fa0 : (w.alloc (Obj.cells #[Value.string nm, Value.bool n1, Value.slice a1 xs1.length c1, Value.bool m1, Value.slice a2 ys1.length c2] 89)).frozen? ⟨w.heap.size, 0, none⟩ = false := Lib.frozen_of_heap Xa.out 0
  have ka1 : (w.alloc (Obj.cells #[Value.string nm, Value.bool n1, Value.slice a1 xs1.length c1, Value.bool m1, Value.slice a2 ys1.length c2] 89)).cell? ⟨w.heap.size, 1, none⟩ = some (Value.bool n1) := (Lib.cell_of_heap Xa.out 1).trans rfl
  have fa1 : (w.alloc (Obj.cells #[Value.string nm, Value.bool n1, Value.slice a1 xs1.length c1, Value.bool m1, Value.slice a2 ys1.length c2] 89)).frozen? ⟨w.heap.size, 1, none⟩ = false := Lib.frozen_of_heap Xa.out 1
  have ka2 : (w.alloc (Obj.cells #[Value.string nm, Value.bool n1, Value.slice a1 xs1.length c1, Value.bool m1, Value.slice a2 ys1.length c2] 89)).cell? ⟨w.heap.size, 2, none⟩ = some (Value.slice a1 xs1.length c1) := (Lib.cell_of_heap Xa.out 2).trans rfl
  have fa2 : (w.alloc (Obj.cells #[Value.string nm, Value.bool n1, Value.slice a1 xs1.length c1, Value.bool m1, Value.slice a2 ys1.length c2] 89)).frozen? ⟨w.heap.size, 2, none⟩ = false := Lib.frozen_of_heap Xa.out 2
  have ka3 : (w.alloc (Obj.cells #[Value.string nm, Value.bool n1, Value.slice a1 xs1.length c1, Value.bool m1, Value.slice a2 ys1.length c2] 89)).cell? ⟨w.heap.size, 3, none⟩ = some (Value.bool m1) := (Lib.cell_of_heap Xa.out 3).trans rfl
  have fa3 : (w.alloc (Obj.cells #[Value.string nm, Value.bool n1, Value.slice a1 xs1.length c1, Value.bool m1, Value.slice a2 ys1.length c2] 89)).frozen? ⟨w.heap.size, 3, none⟩ = false := Lib.frozen_of_heap Xa.out 3
  have ka4 : (w.alloc (Obj.cells #[Value.string nm, Value.bool n1, Value.slice a1 xs1.length c1, Value.bool m1, Value.slice a2 ys1.length c2] 89)).cell? ⟨w.heap.size, 4, none⟩ = some (Value.slice a2 ys1.length c2) := (Lib.cell_of_heap Xa.out 4).trans rfl
  have fa4 : (w.alloc (Obj.cells #[Value.string nm, Value.bool n1, Value.slice a1 xs1.length c1, Value.bool m1, Value.slice a2 ys1.length c2] 89)).frozen? ⟨w.heap.size, 4, none⟩ = false := Lib.frozen_of_heap Xa.out 4
  have za : w.heap.size < (w.alloc (Obj.cells #[Value.string nm, Value.bool n1, Value.slice a1 xs1.length c1, Value.bool m1, Value.slice a2 ys1.length c2] 89)).heap.size := hlt Xa.out
  go_enter Tryz.func45, Tryz.ntmps45
  go_wp2_with fail
  generalize (w.alloc (Obj.cells #[Value.string nm, Value.bool n1, Value.slice a1 xs1.length c1, Value.bool m1, Value.slice a2 ys1.length c2] 89)) = w1 at *
  refine (szR n1 a1 xs1.length c1 m1 a2 ys1.length c2 (L - (nm.size : Int)) _ q1 q2 (by omega) (by omega)).mono ?_
  rintro e w2 ⟨rfl, hb⟩
  have yw2 := hb.size
  clear ka0 fa0 ka1 fa1 ka2 fa2 ka3 fa3 ka4 fa4 za
  replace Xa := hide (hbel Xa.out hb (by first | assumption | omega))
  replace HB := hide (bl_trans HB.out hb)
  clear hb
  have ka0 : w2.cell? ⟨w.heap.size, 0, none⟩ = some (Value.string nm) := (Lib.cell_of_heap Xa.out 0).trans rfl
  have fa0 : w2.frozen? ⟨w.heap.size, 0, none⟩ = false := Lib.frozen_of_heap Xa.out 0
  have ka1 : w2.cell? ⟨w.heap.size, 1, none⟩ = some (Value.bool n1) := (Lib.cell_of_heap Xa.out 1).trans rfl
  have fa1 : w2.frozen? ⟨w.heap.size, 1, none⟩ = false := Lib.frozen_of_heap Xa.out 1
  have ka2 : w2.cell? ⟨w.heap.size, 2, none⟩ = some (Value.slice a1 xs1.length c1) := (Lib.cell_of_heap Xa.out 2).trans rfl
  have fa2 : w2.frozen? ⟨w.heap.size, 2, none⟩ = false := Lib.frozen_of_heap Xa.out 2
  have ka3 : w2.cell? ⟨w.heap.size, 3, none⟩ = some (Value.bool m1) := (Lib.cell_of_heap Xa.out 3).trans rfl
  have fa3 : w2.frozen? ⟨w.heap.size, 3, none⟩ = false := Lib.frozen_of_heap Xa.out 3
  have ka4 : w2.cell? ⟨w.heap.size, 4, none⟩ = some (Value.slice a2 ys1.length c2) := (Lib.cell_of_heap Xa.out 4).trans rfl
  have fa4 : w2.frozen? ⟨w.heap.size, 4, none⟩ = false := Lib.frozen_of_heap Xa.out 4
  have za : w.heap.size < w2.heap.size := hlt Xa.out
  by_cases d2 : L - (nm.size : Int) < (xs1.length : Int)
  · rw [if_pos d2]
    go_wp2
    go_ret
    exact ⟨ret_int (by rw [HZ.out]; unfold rleft; rw [if_pos (by omega)]), HB.out⟩
  rw [if_neg d2]
  by_cases d3 : L - (nm.size : Int) - (xs1.length : Int) < (ys1.length : Int)
  · rw [if_pos d3]
    go_wp2
    go_ret
    exact ⟨ret_int (by rw [HZ.out]; unfold rleft; rw [if_pos (by omega)]), HB.out⟩
  rw [if_neg d3]
  go_wp2
  go_ret
  exact ⟨ret_int (by rw [HZ.out]; unfold rleft; rw [if_neg (by omega)]; omega), HB.out⟩

set_option maxHeartbeats 4000000 in
set_option maxRecDepth 20000 in
theorem szPfS (a : Option Addr) (n cap : Nat) (X : Nat → Prop) (rs : List (List Lf)) (L : Int) (w : World) (hs : RSeg w X 5 a n cap rs) (hsh : ∀ r ∈ rs, ShPf r) (h0 : 0 ≤ L) (h1 : L ≤ 1048576) :
    Calls Tryz.prog 20 #[.slice a n cap, .int .i64 L] w fun e w' => e = .returned (.int .i64 (rleft L (n + rtot rs))) ∧ Below w.heap.size w w' := by
  have hn : n ≤ 9223372036854775807 := hs.le
  have hcap := hs.2.1
  have hcm := hs.2.2.1
  have hxl := hs.1
  have HS := hide hs
  clear hs
  by_cases hL : L < n
  · have HZ : Hid (rleft L (n + rtot rs) = -1) := hide (by unfold rleft; rw [if_pos (by omega)])
    have h' : L - (n : Int) < 0 := by omega
    go_enter Tryz.func20, Tryz.ntmps20
    go_wp2
    go_ret
    exact ⟨ret_int HZ.out.symm, bl_refl w⟩
  have h' : ¬ L - (n : Int) < 0 := by omega
  go_enter Tryz.func20, Tryz.ntmps20
  go_wp2
  go_loopw [1, 5] (fun l i wr => ∃ (k : Nat) (q : Int), k ≤ n ∧ l = .int .i64 q ∧ i = .int .i64 k ∧ 0 ≤ q ∧ q ≤ 1048576 ∧ Hid (q = L - n - rtot (rs.take k)) ∧ Hid (Below w.heap.size w wr)) (fun _ i _ => n - (intOf i).toNat)
  case atStart => exact ⟨0, L - n, Nat.zero_le _, rfl, rfl, by omega, by omega, hide (by simp [rtot]), hide (bl_refl w)⟩
  case round =>
    obtain ⟨k, q, hk, rfl, rfl, hq0, hq1, hq, hb⟩ := hrel
    by_cases hlt : k < n
    · have hlt' : (k : Int) < (n : Int) := by omega
      have hkx : k < rs.length := by omega
      obtain ⟨g, o, rfl, hg, hrec⟩ := (HS.out.below hb.out).at hkx
      have hsz := HS.out.2.2.2.1 rs[k] (List.getElem_mem _)
      have E1 := hide (rtot_take rs k hkx)
      have E2 := hide (rtot_mono rs k hkx)
      obtain ⟨nm, n1, xs1, m1, ys1, er⟩ := hsh rs[k] (List.getElem_mem _)
      rw [er] at hrec hsz E1 E2
      clear er
      have wn0 : nm.size ≤ 9223372036854775807 := hsz (.t nm) (by simp)
      clear hsz
      obtain ⟨a1, c1, a2, c2, t0, t1, t2, t3, t4, sg1, sg2, _⟩ := openPf hrec
      have H1 := hide sg1
      have H2 := hide sg2
      clear sg1 sg2
      go_wp2_with fail
      refine (szPf nm n1 xs1 m1 ys1 a1 c1 a2 c2 q wr H1.out H2.out wn0 hq0 hq1).mono ?_
      rintro e w2 ⟨rfl, hb2⟩
      have hbb := hide (bl_trans hb.out hb2)
      clear hb2
      by_cases hq2 : q < (rsz [.t nm, .b n1, .l xs1, .b m1, .l ys1] : Int)
      · have HE : Hid (rleft q (rsz [.t nm, .b n1, .l xs1, .b m1, .l ys1]) = -1) := hide (by unfold rleft; rw [if_pos hq2])
        rw [HE.out]
        go_wp2
        go_ret
        exact ⟨ret_int (by have := hq.out; have := E2.out; unfold rleft; rw [if_pos (by omega)]), hbb.out⟩
      · have HE : Hid (rleft q (rsz [.t nm, .b n1, .l xs1, .b m1, .l ys1]) = q - (rsz [.t nm, .b n1, .l xs1, .b m1, .l ys1] : Int)) := hide (by unfold rleft; rw [if_neg hq2])
        rw [HE.out]
        generalize rsz [.t nm, .b n1, .l xs1, .b m1, .l ys1] = z at *
        have hz0 : ¬ q - (z : Int) < 0 := by omega
        go_wp2
        exact ⟨⟨k + 1, q - z, by omega, rfl, by go_num, by omega, by omega, hide (by rw [E1.out]; have := hq.out; omega), hbb⟩, by simp [intOf]; omega⟩
    · obtain rfl : k = n := by omega
      go_wp2
      go_ret
      exact ⟨ret_int (by have := hq.out; rw [List.take_of_length_le (by omega)] at this; unfold rleft; rw [if_neg (by omega)]; omega), hb.out⟩


set_option maxHeartbeats 4000000 in
set_option maxRecDepth 20000 in
theorem toPf (nm : ByteArray) (n1 : Bool) (xs1 : List Nat) (m1 : Bool) (ys1 : List Nat) (a1 : Option Addr) (c1 : Nat) (a2 : Option Addr) (c2 : Nat) (w : World) (s1 : Seg w a1 xs1.length c1 xs1) (s2 : Seg w a2 ys1.length c2 ys1) (h1 : xs1.length ≤ 1048576) (h2 : ys1.length ≤ 1048576) :
    Calls Tryz.prog 51 #[Value.agg #[Value.string nm, Value.bool n1, Value.slice a1 xs1.length c1, Value.bool m1, Value.slice a2 ys1.length c2]] w fun e w' => ∃ b1 d1 b2 d2, e = .returned (Value.agg #[Value.string nm, Value.bool n1, Value.slice b1 xs1.length d1, Value.bool m1, Value.slice b2 ys1.length d2]) ∧ Own w' w.heap.size b1 xs1.length d1 xs1 ∧ Own w' w.heap.size b2 ys1.length d2 ys1 ∧ Below w.heap.size w w' := by
  have S1 := hide s1
  have S2 := hide s2
  clear s1 s2
  have Xa : Hid ((((w.alloc (Obj.cells #[Value.string nm, Value.bool n1, Value.slice a1 xs1.length c1, Value.bool m1, Value.slice a2 ys1.length c2] 89)).alloc (Obj.cells #[Value.string ⟨#[]⟩, Value.bool false, Value.slice none 0 0, Value.bool false, Value.slice none 0 0] 57)).alloc (Obj.cells #[Value.string nm, Value.bool false, Value.slice none 0 0, Value.bool false, Value.slice none 0 0] 57)).heap[w.heap.size]? = some (.cells #[Value.string nm, Value.bool n1, Value.slice a1 xs1.length c1, Value.bool m1, Value.slice a2 ys1.length c2] 89 (0, 0))) := hide (by simpa only [World.size_alloc] using (hnewer (hnewer (hnew w (Obj.cells #[Value.string nm, Value.bool n1, Value.slice a1 xs1.length c1, Value.bool m1, Value.slice a2 ys1.length c2] 89)) (Obj.cells #[Value.string ⟨#[]⟩, Value.bool false, Value.slice none 0 0, Value.bool false, Value.slice none 0 0] 57)) (Obj.cells #[Value.string nm, Value.bool false, Value.slice none 0 0, Value.bool false, Value.slice none 0 0] 57)))
  have Xr : Hid ((((w.alloc (Obj.cells #[Value.string nm, Value.bool n1, Value.slice a1 xs1.length c1, Value.bool m1, Value.slice a2 ys1.length c2] 89)).alloc (Obj.cells #[Value.string ⟨#[]⟩, Value.bool false, Value.slice none 0 0, Value.bool false, Value.slice none 0 0] 57)).alloc (Obj.cells #[Value.string nm, Value.bool false, Value.slice none 0 0, Value.bool false, Value.slice none 0 0] 57)).heap[w.heap.size + 1]? = some (.cells #[Value.string ⟨#[]⟩, Value.bool false, Value.slice none 0 0, Value.bool false, Value.slice none 0 0] 57 (0, 0))) := hide (by simpa only [World.size_alloc] using (hnewer (hnew (w.alloc (Obj.cells #[Value.string nm, Value.bool n1, Value.slice a1 xs1.length c1, Value.bool m1, Value.slice a2 ys1.length c2] 89)) (Obj.cells #[Value.string ⟨#[]⟩, Value.bool false, Value.slice none 0 0, Value.bool false, Value.slice none 0 0] 57)) (Obj.cells #[Value.string nm, Value.bool false, Value.slice none 0 0, Value.bool false, Value.slice none 0 0] 57)))
  have Xo : Hid ((((w.alloc (Obj.cells #[Value.string nm, Value.bool n1, Value.slice a1 xs1.length c1, Value.bool m1, Value.slice a2 ys1.length c2] 89)).alloc (Obj.cells #[Value.string ⟨#[]⟩, Value.bool false, Value.slice none 0 0, Value.bool false, Value.slice none 0 0] 57)).alloc (Obj.cells #[Value.string nm, Value.bool false, Value.slice none 0 0, Value.bool false, Value.slice none 0 0] 57)).heap[w.heap.size + 1 + 1]? = some (.cells #[Value.string nm, Value.bool false, Value.slice none 0 0, Value.bool false, Value.slice none 0 0] 57 (0, 0))) := hide (by simpa only [World.size_alloc] using (hnew ((w.alloc (Obj.cells #[Value.string nm, Value.bool n1, Value.slice a1 xs1.length c1, Value.bool m1, Value.slice a2 ys1.length c2] 89)).alloc (Obj.cells #[Value.string ⟨#[]⟩, Value.bool false, Value.slice none 0 0, Value.bool false, Value.slice none 0 0] 57)) (Obj.cells #[Value.string nm, Value.bool false, Value.slice none 0 0, Value.bool false, Value.slice none 0 0] 57)))
  have HB : Hid (Below w.heap.size w (((w.alloc (Obj.cells #[Value.string nm, Value.bool n1, Value.slice a1 xs1.length c1, Value.bool m1, Value.slice a2 ys1.length c2] 89)).alloc (Obj.cells #[Value.string ⟨#[]⟩, Value.bool false, Value.slice none 0 0, Value.bool false, Value.slice none 0 0] 57)).alloc (Obj.cells #[Value.string nm, Value.bool false, Value.slice none 0 0, Value.bool false, Value.slice none 0 0] 57))) := hide (bl_alloc (bl_alloc (bl_alloc (bl_refl w) (Obj.cells #[Value.string nm, Value.bool n1, Value.slice a1 xs1.length c1, Value.bool m1, Value.slice a2 ys1.length c2] 89)) (Obj.cells #[Value.string ⟨#[]⟩, Value.bool false, Value.slice none 0 0, Value.bool false, Value.slice none 0 0] 57)) (Obj.cells #[Value.string nm, Value.bool false, Value.slice none 0 0, Value.bool false, Value.slice none 0 0] 57))
  have yw1 : w.heap.size + 3 ≤ (((w.alloc (Obj.cells #[Value.string nm, Value.bool n1, Value.slice a1 xs1.length c1, Value.bool m1, Value.slice a2 ys1.length c2] 89)).alloc (Obj.cells #[Value.string ⟨#[]⟩, Value.bool false, Value.slice none 0 0, Value.bool false, Value.slice none 0 0] 57)).alloc (Obj.cells #[Value.string nm, Value.bool false, Value.slice none 0 0, Value.bool false, Value.slice none 0 0] 57)).heap.size := by simp only [World.size_alloc]; omega
  have ka0 : (((w.alloc (Obj.cells #[Value.string nm, Value.bool n1, Value.slice a1 xs1.length c1, Value.bool m1, Value.slice a2 ys1.length c2] 89)).alloc (Obj.cells #[Value.string ⟨#[]⟩, Value.bool false, Value.slice none 0 0, Value.bool false, Value.slice none 0 0] 57)).alloc (Obj.cells #[Value.string nm, Value.bool false, Value.slice none 0 0, Value.bool false, Value.slice none 0 0] 57)).cell? ⟨w.heap.size, 0, none⟩ = some (Value.string nm) := (Lib.cell_of_heap Xa.out 0).trans rfl
  have fa0 : (((w.alloc (Obj.cells #[Value.string nm, Value.bool n1, Value.slice a1 xs1.length c1, Value.bool m1, Value.slice a2 ys1.length c2] 89)).alloc (Obj.cells #[Value.string ⟨#[]⟩, Value.bool false, Value.slice none 0 0, Value.bool false, Value.slice none 0 0] 57)).alloc (Obj.cells #[Value.string nm, Value.bool false, Value.slice none 0 0, Value.bool false, Value.slice none 0 0] 57)).frozen? ⟨w.heap.size, 0, none⟩ = false := Lib.frozen_of_heap Xa.out 0
  have ka1 : (((w.alloc (Obj.cells #[Value.string nm, Value.bool n1, Value.slice a1 xs1.length c1, Value.bool m1, Value.slice a2 ys1.length c2] 89)).alloc (Obj.cells #[Value.string ⟨#[]⟩, Value.bool false, Value.slice none 0 0, Value.bool false, Value.slice none 0 0] 57)).alloc (Obj.cells #[Value.string nm, Value.bool false, Value.slice none 0 0, Value.bool false, Value.slice none 0 0] 57)).cell? ⟨w.heap.size, 1, none⟩ = some (Value.bool n1) := (Lib.cell_of_heap Xa.out 1).trans rfl
  have fa1 : (((w.alloc (Obj.cells #[Value.string nm, Value.bool n1, Value.slice a1 xs1.length c1, Value.bool m1, Value.slice a2 ys1.length c2] 89)).alloc (Obj.cells #[Value.string ⟨#[]⟩, Value.bool false, Value.slice none 0 0, Value.bool false, Value.slice none 0 0] 57)).alloc (Obj.cells #[Value.string nm, Value.bool false, Value.slice none 0 0, Value.bool false, Value.slice none 0 0] 57)).frozen? ⟨w.heap.size, 1, none⟩ = false := Lib.frozen_of_heap Xa.out 1
  have ka2 : (((w.alloc (Obj.cells #[Value.string nm, Value.bool n1, Value.slice a1 xs1.length c1, Value.bool m1, Value.slice a2 ys1.length c2] 89)).alloc (Obj.cells #[Value.string ⟨#[]⟩, Value.bool false, Value.slice none 0 0, Value.bool false, Value.slice none 0 0] 57)).alloc (Obj.cells #[Value.string nm, Value.bool false, Value.slice none 0 0, Value.bool false, Value.slice none 0 0] 57)).cell? ⟨w.heap.size, 2, none⟩ = some (Value.slice a1 xs1.length c1) := (Lib.cell_of_heap Xa.out 2).trans rfl
  have fa2 : (((w.alloc (Obj.cells #[Value.string nm, Value.bool n1, Value.slice a1 xs1.length c1, Value.bool m1, Value.slice a2 ys1.length c2] 89)).alloc (Obj.cells #[Value.string ⟨#[]⟩, Value.bool false, Value.slice none 0 0, Value.bool false, Value.slice none 0 0] 57)).alloc (Obj.cells #[Value.string nm, Value.bool false, Value.slice none 0 0, Value.bool false, Value.slice none 0 0] 57)).frozen? ⟨w.heap.size, 2, none⟩ = false := Lib.frozen_of_heap Xa.out 2
  have ka3 : (((w.alloc (Obj.cells #[Value.string nm, Value.bool n1, Value.slice a1 xs1.length c1, Value.bool m1, Value.slice a2 ys1.length c2] 89)).alloc (Obj.cells #[Value.string ⟨#[]⟩, Value.bool false, Value.slice none 0 0, Value.bool false, Value.slice none 0 0] 57)).alloc (Obj.cells #[Value.string nm, Value.bool false, Value.slice none 0 0, Value.bool false, Value.slice none 0 0] 57)).cell? ⟨w.heap.size, 3, none⟩ = some (Value.bool m1) := (Lib.cell_of_heap Xa.out 3).trans rfl
  have fa3 : (((w.alloc (Obj.cells #[Value.string nm, Value.bool n1, Value.slice a1 xs1.length c1, Value.bool m1, Value.slice a2 ys1.length c2] 89)).alloc (Obj.cells #[Value.string ⟨#[]⟩, Value.bool false, Value.slice none 0 0, Value.bool false, Value.slice none 0 0] 57)).alloc (Obj.cells #[Value.string nm, Value.bool false, Value.slice none 0 0, Value.bool false, Value.slice none 0 0] 57)).frozen? ⟨w.heap.size, 3, none⟩ = false := Lib.frozen_of_heap Xa.out 3
  have ka4 : (((w.alloc (Obj.cells #[Value.string nm, Value.bool n1, Value.slice a1 xs1.length c1, Value.bool m1, Value.slice a2 ys1.length c2] 89)).alloc (Obj.cells #[Value.string ⟨#[]⟩, Value.bool false, Value.slice none 0 0, Value.bool false, Value.slice none 0 0] 57)).alloc (Obj.cells #[Value.string nm, Value.bool false, Value.slice none 0 0, Value.bool false, Value.slice none 0 0] 57)).cell? ⟨w.heap.size, 4, none⟩ = some (Value.slice a2 ys1.length c2) := (Lib.cell_of_heap Xa.out 4).trans rfl
  have fa4 : (((w.alloc (Obj.cells #[Value.string nm, Value.bool n1, Value.slice a1 xs1.length c1, Value.bool m1, Value.slice a2 ys1.length c2] 89)).alloc (Obj.cells #[Value.string ⟨#[]⟩, Value.bool false, Value.slice none 0 0, Value.bool false, Value.slice none 0 0] 57)).alloc (Obj.cells #[Value.string nm, Value.bool false, Value.slice none 0 0, Value.bool false, Value.slice none 0 0] 57)).frozen? ⟨w.heap.size, 4, none⟩ = false := Lib.frozen_of_heap Xa.out 4
  have za : w.heap.size < (((w.alloc (Obj.cells #[Value.string nm, Value.bool n1, Value.slice a1 xs1.length c1, Value.bool m1, Value.slice a2 ys1.length c2] 89)).alloc (Obj.cells #[Value.string ⟨#[]⟩, Value.bool false, Value.slice none 0 0, Value.bool false, Value.slice none 0 0] 57)).alloc (Obj.cells #[Value.string nm, Value.bool false, Value.slice none 0 0, Value.bool false, Value.slice none 0 0] 57)).heap.size := hlt Xa.out
  have kr0 : (((w.alloc (Obj.cells #[Value.string nm, Value.bool n1, Value.slice a1 xs1.length c1, Value.bool m1, Value.slice a2 ys1.length c2] 89)).alloc (Obj.cells #[Value.string ⟨#[]⟩, Value.bool false, Value.slice none 0 0, Value.bool false, Value.slice none 0 0] 57)).alloc (Obj.cells #[Value.string nm, Value.bool false, Value.slice none 0 0, Value.bool false, Value.slice none 0 0] 57)).cell? ⟨w.heap.size + 1, 0, none⟩ = some (Value.string ⟨#[]⟩) := (Lib.cell_of_heap Xr.out 0).trans rfl
  have fr0 : (((w.alloc (Obj.cells #[Value.string nm, Value.bool n1, Value.slice a1 xs1.length c1, Value.bool m1, Value.slice a2 ys1.length c2] 89)).alloc (Obj.cells #[Value.string ⟨#[]⟩, Value.bool false, Value.slice none 0 0, Value.bool false, Value.slice none 0 0] 57)).alloc (Obj.cells #[Value.string nm, Value.bool false, Value.slice none 0 0, Value.bool false, Value.slice none 0 0] 57)).frozen? ⟨w.heap.size + 1, 0, none⟩ = false := Lib.frozen_of_heap Xr.out 0
  have kr1 : (((w.alloc (Obj.cells #[Value.string nm, Value.bool n1, Value.slice a1 xs1.length c1, Value.bool m1, Value.slice a2 ys1.length c2] 89)).alloc (Obj.cells #[Value.string ⟨#[]⟩, Value.bool false, Value.slice none 0 0, Value.bool false, Value.slice none 0 0] 57)).alloc (Obj.cells #[Value.string nm, Value.bool false, Value.slice none 0 0, Value.bool false, Value.slice none 0 0] 57)).cell? ⟨w.heap.size + 1, 1, none⟩ = some (Value.bool false) := (Lib.cell_of_heap Xr.out 1).trans rfl
  have fr1 : (((w.alloc (Obj.cells #[Value.string nm, Value.bool n1, Value.slice a1 xs1.length c1, Value.bool m1, Value.slice a2 ys1.length c2] 89)).alloc (Obj.cells #[Value.string ⟨#[]⟩, Value.bool false, Value.slice none 0 0, Value.bool false, Value.slice none 0 0] 57)).alloc (Obj.cells #[Value.string nm, Value.bool false, Value.slice none 0 0, Value.bool false, Value.slice none 0 0] 57)).frozen? ⟨w.heap.size + 1, 1, none⟩ = false := Lib.frozen_of_heap Xr.out 1
  have kr2 : (((w.alloc (Obj.cells #[Value.string nm, Value.bool n1, Value.slice a1 xs1.length c1, Value.bool m1, Value.slice a2 ys1.length c2] 89)).alloc (Obj.cells #[Value.string ⟨#[]⟩, Value.bool false, Value.slice none 0 0, Value.bool false, Value.slice none 0 0] 57)).alloc (Obj.cells #[Value.string nm, Value.bool false, Value.slice none 0 0, Value.bool false, Value.slice none 0 0] 57)).cell? ⟨w.heap.size + 1, 2, none⟩ = some (Value.slice none 0 0) := (Lib.cell_of_heap Xr.out 2).trans rfl
  have fr2 : (((w.alloc (Obj.cells #[Value.string nm, Value.bool n1, Value.slice a1 xs1.length c1, Value.bool m1, Value.slice a2 ys1.length c2] 89)).alloc (Obj.cells #[Value.string ⟨#[]⟩, Value.bool false, Value.slice none 0 0, Value.bool false, Value.slice none 0 0] 57)).alloc (Obj.cells #[Value.string nm, Value.bool false, Value.slice none 0 0, Value.bool false, Value.slice none 0 0] 57)).frozen? ⟨w.heap.size + 1, 2, none⟩ = false := Lib.frozen_of_heap Xr.out 2
  have kr3 : (((w.alloc (Obj.cells #[Value.string nm, Value.bool n1, Value.slice a1 xs1.length c1, Value.bool m1, Value.slice a2 ys1.length c2] 89)).alloc (Obj.cells #[Value.string ⟨#[]⟩, Value.bool false, Value.slice none 0 0, Value.bool false, Value.slice none 0 0] 57)).alloc (Obj.cells #[Value.string nm, Value.bool false, Value.slice none 0 0, Value.bool false, Value.slice none 0 0] 57)).cell? ⟨w.heap.size + 1, 3, none⟩ = some (Value.bool false) := (Lib.cell_of_heap Xr.out 3).trans rfl
  have fr3 : (((w.alloc (Obj.cells #[Value.string nm, Value.bool n1, Value.slice a1 xs1.length c1, Value.bool m1, Value.slice a2 ys1.length c2] 89)).alloc (Obj.cells #[Value.string ⟨#[]⟩, Value.bool false, Value.slice none 0 0, Value.bool false, Value.slice none 0 0] 57)).alloc (Obj.cells #[Value.string nm, Value.bool false, Value.slice none 0 0, Value.bool false, Value.slice none 0 0] 57)).frozen? ⟨w.heap.size + 1, 3, none⟩ = false := Lib.frozen_of_heap Xr.out 3
  have kr4 : (((w.alloc (Obj.cells #[Value.string nm, Value.bool n1, Value.slice a1 xs1.length c1, Value.bool m1, Value.slice a2 ys1.length c2] 89)).alloc (Obj.cells #[Value.string ⟨#[]⟩, Value.bool false, Value.slice none 0 0, Value.bool false, Value.slice none 0 0] 57)).alloc (Obj.cells #[Value.string nm, Value.bool false, Value.slice none 0 0, Value.bool false, Value.slice none 0 0] 57)).cell? ⟨w.heap.size + 1, 4, none⟩ = some (Value.slice none 0 0) := (Lib.cell_of_heap Xr.out 4).trans rfl
  have fr4 : (((w.alloc (Obj.cells #[Value.string nm, Value.bool n1, Value.slice a1 xs1.length c1, Value.bool m1, Value.slice a2 ys1.length c2] 89)).alloc (Obj.cells #[Value.string ⟨#[]⟩, Value.bool false, Value.slice none 0 0, Value.bool false, Value.slice none 0 0] 57)).alloc (Obj.cells #[Value.string nm, Value.bool false, Value.slice none 0 0, Value.bool false, Value.slice none 0 0] 57)).frozen? ⟨w.heap.size + 1, 4, none⟩ = false := Lib.frozen_of_heap Xr.out 4
  have zr : w.heap.size + 1 < (((w.alloc (Obj.cells #[Value.string nm, Value.bool n1, Value.slice a1 xs1.length c1, Value.bool m1, Value.slice a2 ys1.length c2] 89)).alloc (Obj.cells #[Value.string ⟨#[]⟩, Value.bool false, Value.slice none 0 0, Value.bool false, Value.slice none 0 0] 57)).alloc (Obj.cells #[Value.string nm, Value.bool false, Value.slice none 0 0, Value.bool false, Value.slice none 0 0] 57)).heap.size := hlt Xr.out
  have ko0 : (((w.alloc (Obj.cells #[Value.string nm, Value.bool n1, Value.slice a1 xs1.length c1, Value.bool m1, Value.slice a2 ys1.length c2] 89)).alloc (Obj.cells #[Value.string ⟨#[]⟩, Value.bool false, Value.slice none 0 0, Value.bool false, Value.slice none 0 0] 57)).alloc (Obj.cells #[Value.string nm, Value.bool false, Value.slice none 0 0, Value.bool false, Value.slice none 0 0] 57)).cell? ⟨w.heap.size + 1 + 1, 0, none⟩ = some (Value.string nm) := (Lib.cell_of_heap Xo.out 0).trans rfl
  have fo0 : (((w.alloc (Obj.cells #[Value.string nm, Value.bool n1, Value.slice a1 xs1.length c1, Value.bool m1, Value.slice a2 ys1.length c2] 89)).alloc (Obj.cells #[Value.string ⟨#[]⟩, Value.bool false, Value.slice none 0 0, Value.bool false, Value.slice none 0 0] 57)).alloc (Obj.cells #[Value.string nm, Value.bool false, Value.slice none 0 0, Value.bool false, Value.slice none 0 0] 57)).frozen? ⟨w.heap.size + 1 + 1, 0, none⟩ = false := Lib.frozen_of_heap Xo.out 0
  have ko1 : (((w.alloc (Obj.cells #[Value.string nm, Value.bool n1, Value.slice a1 xs1.length c1, Value.bool m1, Value.slice a2 ys1.length c2] 89)).alloc (Obj.cells #[Value.string ⟨#[]⟩, Value.bool false, Value.slice none 0 0, Value.bool false, Value.slice none 0 0] 57)).alloc (Obj.cells #[Value.string nm, Value.bool false, Value.slice none 0 0, Value.bool false, Value.slice none 0 0] 57)).cell? ⟨w.heap.size + 1 + 1, 1, none⟩ = some (Value.bool false) := (Lib.cell_of_heap Xo.out 1).trans rfl
  have fo1 : (((w.alloc (Obj.cells #[Value.string nm, Value.bool n1, Value.slice a1 xs1.length c1, Value.bool m1, Value.slice a2 ys1.length c2] 89)).alloc (Obj.cells #[Value.string ⟨#[]⟩, Value.bool false, Value.slice none 0 0, Value.bool false, Value.slice none 0 0] 57)).alloc (Obj.cells #[Value.string nm, Value.bool false, Value.slice none 0 0, Value.bool false, Value.slice none 0 0] 57)).frozen? ⟨w.heap.size + 1 + 1, 1, none⟩ = false := Lib.frozen_of_heap Xo.out 1
  have ko2 : (((w.alloc (Obj.cells #[Value.string nm, Value.bool n1, Value.slice a1 xs1.length c1, Value.bool m1, Value.slice a2 ys1.length c2] 89)).alloc (Obj.cells #[Value.string ⟨#[]⟩, Value.bool false, Value.slice none 0 0, Value.bool false, Value.slice none 0 0] 57)).alloc (Obj.cells #[Value.string nm, Value.bool false, Value.slice none 0 0, Value.bool false, Value.slice none 0 0] 57)).cell? ⟨w.heap.size + 1 + 1, 2, none⟩ = some (Value.slice none 0 0) := (Lib.cell_of_heap Xo.out 2).trans rfl
  have fo2 : (((w.alloc (Obj.cells #[Value.string nm, Value.bool n1, Value.slice a1 xs1.length c1, Value.bool m1, Value.slice a2 ys1.length c2] 89)).alloc (Obj.cells #[Value.string ⟨#[]⟩, Value.bool false, Value.slice none 0 0, Value.bool false, Value.slice none 0 0] 57)).alloc (Obj.cells #[Value.string nm, Value.bool false, Value.slice none 0 0, Value.bool false, Value.slice none 0 0] 57)).frozen? ⟨w.heap.size + 1 + 1, 2, none⟩ = false := Lib.frozen_of_heap Xo.out 2
  have ko3 : (((w.alloc (Obj.cells #[Value.string nm, Value.bool n1, Value.slice a1 xs1.length c1, Value.bool m1, Value.slice a2 ys1.length c2] 89)).alloc (Obj.cells #[Value.string ⟨#[]⟩, Value.bool false, Value.slice none 0 0, Value.bool false, Value.slice none 0 0] 57)).alloc (Obj.cells #[Value.string nm, Value.bool false, Value.slice none 0 0, Value.bool false, Value.slice none 0 0] 57)).cell? ⟨w.heap.size + 1 + 1, 3, none⟩ = some (Value.bool false) := (Lib.cell_of_heap Xo.out 3).trans rfl
  have fo3 : (((w.alloc (Obj.cells #[Value.string nm, Value.bool n1, Value.slice a1 xs1.length c1, Value.bool m1, Value.slice a2 ys1.length c2] 89)).alloc (Obj.cells #[Value.string ⟨#[]⟩, Value.bool false, Value.slice none 0 0, Value.bool false, Value.slice none 0 0] 57)).alloc (Obj.cells #[Value.string nm, Value.bool false, Value.slice none 0 0, Value.bool false, Value.slice none 0 0] 57)).frozen? ⟨w.heap.size + 1 + 1, 3, none⟩ = false := Lib.frozen_of_heap Xo.out 3
  have ko4 : (((w.alloc (Obj.cells #[Value.string nm, Value.bool n1, Value.slice a1 xs1.length c1, Value.bool m1, Value.slice a2 ys1.length c2] 89)).alloc (Obj.cells #[Value.string ⟨#[]⟩, Value.bool false, Value.slice none 0 0, Value.bool false, Value.slice none 0 0] 57)).alloc (Obj.cells #[Value.string nm, Value.bool false, Value.slice none 0 0, Value.bool false, Value.slice none 0 0] 57)).cell? ⟨w.heap.size + 1 + 1, 4, none⟩ = some (Value.slice none 0 0) := (Lib.cell_of_heap Xo.out 4).trans rfl
  have fo4 : (((w.alloc (Obj.cells #[Value.string nm, Value.bool n1, Value.slice a1 xs1.length c1, Value.bool m1, Value.slice a2 ys1.length c2] 89)).alloc (Obj.cells #[Value.string ⟨#[]⟩, Value.bool false, Value.slice none 0 0, Value.bool false, Value.slice none 0 0] 57)).alloc (Obj.cells #[Value.string nm, Value.bool false, Value.slice none 0 0, Value.bool false, Value.slice none 0 0] 57)).frozen? ⟨w.heap.size + 1 + 1, 4, none⟩ = false := Lib.frozen_of_heap Xo.out 4
  have zo : w.heap.size + 1 + 1 < (((w.alloc (Obj.cells #[Value.string nm, Value.bool n1, Value.slice a1 xs1.length c1, Value.bool m1, Value.slice a2 ys1.length c2] 89)).alloc (Obj.cells #[Value.string ⟨#[]⟩, Value.bool false, Value.slice none 0 0, Value.bool false, Value.slice none 0 0] 57)).alloc (Obj.cells #[Value.string nm, Value.bool false, Value.slice none 0 0, Value.bool false, Value.slice none 0 0] 57)).heap.size := hlt Xo.out
  go_enter Tryz.func51, Tryz.ntmps51
  go_wp2_with fail
  generalize (((w.alloc (Obj.cells #[Value.string nm, Value.bool n1, Value.slice a1 xs1.length c1, Value.bool m1, Value.slice a2 ys1.length c2] 89)).alloc (Obj.cells #[Value.string ⟨#[]⟩, Value.bool false, Value.slice none 0 0, Value.bool false, Value.slice none 0 0] 57)).alloc (Obj.cells #[Value.string nm, Value.bool false, Value.slice none 0 0, Value.bool false, Value.slice none 0 0] 57)) = w1 at *
  refine (toR n1 a1 c1 xs1 m1 a2 c2 ys1 _ (S1.out.below HB.out) (S2.out.below HB.out) h1 h2).mono ?_
  rintro e w2 ⟨b1, d1, b2, d2, rfl, ho1, ho2, _, hb⟩
  have yw2 := hb.size
  clear ka0 fa0 ka1 fa1 ka2 fa2 ka3 fa3 ka4 fa4 za
  clear kr0 fr0 kr1 fr1 kr2 fr2 kr3 fr3 kr4 fr4 zr
  clear ko0 fo0 ko1 fo1 ko2 fo2 ko3 fo3 ko4 fo4 zo
  replace Xa := hide (hbel Xa.out hb (by first | assumption | omega))
  replace Xr := hide (hbel Xr.out hb (by first | assumption | omega))
  replace Xo := hide (hbel Xo.out hb (by first | assumption | omega))
  replace HB := hide (bl_trans HB.out hb)
  clear hb
  have O1 := hide ho1
  clear ho1
  have O2 := hide ho2
  clear ho2
  have ka0 : w2.cell? ⟨w.heap.size, 0, none⟩ = some (Value.string nm) := (Lib.cell_of_heap Xa.out 0).trans rfl
  have fa0 : w2.frozen? ⟨w.heap.size, 0, none⟩ = false := Lib.frozen_of_heap Xa.out 0
  have ka1 : w2.cell? ⟨w.heap.size, 1, none⟩ = some (Value.bool n1) := (Lib.cell_of_heap Xa.out 1).trans rfl
  have fa1 : w2.frozen? ⟨w.heap.size, 1, none⟩ = false := Lib.frozen_of_heap Xa.out 1
  have ka2 : w2.cell? ⟨w.heap.size, 2, none⟩ = some (Value.slice a1 xs1.length c1) := (Lib.cell_of_heap Xa.out 2).trans rfl
  have fa2 : w2.frozen? ⟨w.heap.size, 2, none⟩ = false := Lib.frozen_of_heap Xa.out 2
  have ka3 : w2.cell? ⟨w.heap.size, 3, none⟩ = some (Value.bool m1) := (Lib.cell_of_heap Xa.out 3).trans rfl
  have fa3 : w2.frozen? ⟨w.heap.size, 3, none⟩ = false := Lib.frozen_of_heap Xa.out 3
  have ka4 : w2.cell? ⟨w.heap.size, 4, none⟩ = some (Value.slice a2 ys1.length c2) := (Lib.cell_of_heap Xa.out 4).trans rfl
  have fa4 : w2.frozen? ⟨w.heap.size, 4, none⟩ = false := Lib.frozen_of_heap Xa.out 4
  have za : w.heap.size < w2.heap.size := hlt Xa.out
  have kr0 : w2.cell? ⟨w.heap.size + 1, 0, none⟩ = some (Value.string ⟨#[]⟩) := (Lib.cell_of_heap Xr.out 0).trans rfl
  have fr0 : w2.frozen? ⟨w.heap.size + 1, 0, none⟩ = false := Lib.frozen_of_heap Xr.out 0
  have kr1 : w2.cell? ⟨w.heap.size + 1, 1, none⟩ = some (Value.bool false) := (Lib.cell_of_heap Xr.out 1).trans rfl
  have fr1 : w2.frozen? ⟨w.heap.size + 1, 1, none⟩ = false := Lib.frozen_of_heap Xr.out 1
  have kr2 : w2.cell? ⟨w.heap.size + 1, 2, none⟩ = some (Value.slice none 0 0) := (Lib.cell_of_heap Xr.out 2).trans rfl
  have fr2 : w2.frozen? ⟨w.heap.size + 1, 2, none⟩ = false := Lib.frozen_of_heap Xr.out 2
  have kr3 : w2.cell? ⟨w.heap.size + 1, 3, none⟩ = some (Value.bool false) := (Lib.cell_of_heap Xr.out 3).trans rfl
  have fr3 : w2.frozen? ⟨w.heap.size + 1, 3, none⟩ = false := Lib.frozen_of_heap Xr.out 3
  have kr4 : w2.cell? ⟨w.heap.size + 1, 4, none⟩ = some (Value.slice none 0 0) := (Lib.cell_of_heap Xr.out 4).trans rfl
  have fr4 : w2.frozen? ⟨w.heap.size + 1, 4, none⟩ = false := Lib.frozen_of_heap Xr.out 4
  have zr : w.heap.size + 1 < w2.heap.size := hlt Xr.out
  have ko0 : w2.cell? ⟨w.heap.size + 1 + 1, 0, none⟩ = some (Value.string nm) := (Lib.cell_of_heap Xo.out 0).trans rfl
  have fo0 : w2.frozen? ⟨w.heap.size + 1 + 1, 0, none⟩ = false := Lib.frozen_of_heap Xo.out 0
  have ko1 : w2.cell? ⟨w.heap.size + 1 + 1, 1, none⟩ = some (Value.bool false) := (Lib.cell_of_heap Xo.out 1).trans rfl
  have fo1 : w2.frozen? ⟨w.heap.size + 1 + 1, 1, none⟩ = false := Lib.frozen_of_heap Xo.out 1
  have ko2 : w2.cell? ⟨w.heap.size + 1 + 1, 2, none⟩ = some (Value.slice none 0 0) := (Lib.cell_of_heap Xo.out 2).trans rfl
  have fo2 : w2.frozen? ⟨w.heap.size + 1 + 1, 2, none⟩ = false := Lib.frozen_of_heap Xo.out 2
  have ko3 : w2.cell? ⟨w.heap.size + 1 + 1, 3, none⟩ = some (Value.bool false) := (Lib.cell_of_heap Xo.out 3).trans rfl
  have fo3 : w2.frozen? ⟨w.heap.size + 1 + 1, 3, none⟩ = false := Lib.frozen_of_heap Xo.out 3
  have ko4 : w2.cell? ⟨w.heap.size + 1 + 1, 4, none⟩ = some (Value.slice none 0 0) := (Lib.cell_of_heap Xo.out 4).trans rfl
  have fo4 : w2.frozen? ⟨w.heap.size + 1 + 1, 4, none⟩ = false := Lib.frozen_of_heap Xo.out 4
  have zo : w.heap.size + 1 + 1 < w2.heap.size := hlt Xo.out
  go_wp2
  obtain ⟨w3, ew3⟩ : ∃ x, x = ((((w2.setCell ⟨w.heap.size + 1 + 1, 1, none⟩ (Value.bool n1)).setCell ⟨w.heap.size + 1 + 1, 2, none⟩ (Value.slice b1 xs1.length d1)).setCell ⟨w.heap.size + 1 + 1, 3, none⟩ (Value.bool m1)).setCell ⟨w.heap.size + 1 + 1, 4, none⟩ (Value.slice b2 ys1.length d2)) := ⟨_, rfl⟩
  have hst : St (w.heap.size + 1 + 1) w2 w3 := by rw [ew3]; exact (((((St.refl (w.heap.size + 1 + 1) w2).set 1 (Value.bool n1)).set 2 (Value.slice b1 xs1.length d1)).set 3 (Value.bool m1)).set 4 (Value.slice b2 ys1.length d2))
  rw [← ew3]
  have XX : Hid (w3.heap[w.heap.size + 1 + 1]? = some (.cells #[Value.string nm, Value.bool n1, Value.slice b1 xs1.length d1, Value.bool m1, Value.slice b2 ys1.length d2] 57 (0, 0))) := hide (by rw [ew3]; exact (hset (hset (hset (hset Xo.out 1 (Value.bool n1)) 2 (Value.slice b1 xs1.length d1)) 3 (Value.bool m1)) 4 (Value.slice b2 ys1.length d2)))
  have yw3 : w2.heap.size ≤ w3.heap.size := Nat.le_of_eq hst.size.symm
  clear ew3
  clear ka0 fa0 ka1 fa1 ka2 fa2 ka3 fa3 ka4 fa4 za
  clear kr0 fr0 kr1 fr1 kr2 fr2 kr3 fr3 kr4 fr4 zr
  clear ko0 fo0 ko1 fo1 ko2 fo2 ko3 fo3 ko4 fo4 zo
  replace Xa := hide (hst.heap Xa.out (by omega))
  replace Xr := hide (hst.heap Xr.out (by omega))
  replace O1 := hide (O1.out.st hst (by omega))
  replace O2 := hide (O2.out.st hst (by omega))
  replace HB := hide (St.below HB.out hst (by omega))
  have Xo := XX
  clear XX hst
  have ka0 : w3.cell? ⟨w.heap.size, 0, none⟩ = some (Value.string nm) := (Lib.cell_of_heap Xa.out 0).trans rfl
  have fa0 : w3.frozen? ⟨w.heap.size, 0, none⟩ = false := Lib.frozen_of_heap Xa.out 0
  have ka1 : w3.cell? ⟨w.heap.size, 1, none⟩ = some (Value.bool n1) := (Lib.cell_of_heap Xa.out 1).trans rfl
  have fa1 : w3.frozen? ⟨w.heap.size, 1, none⟩ = false := Lib.frozen_of_heap Xa.out 1
  have ka2 : w3.cell? ⟨w.heap.size, 2, none⟩ = some (Value.slice a1 xs1.length c1) := (Lib.cell_of_heap Xa.out 2).trans rfl
  have fa2 : w3.frozen? ⟨w.heap.size, 2, none⟩ = false := Lib.frozen_of_heap Xa.out 2
  have ka3 : w3.cell? ⟨w.heap.size, 3, none⟩ = some (Value.bool m1) := (Lib.cell_of_heap Xa.out 3).trans rfl
  have fa3 : w3.frozen? ⟨w.heap.size, 3, none⟩ = false := Lib.frozen_of_heap Xa.out 3
  have ka4 : w3.cell? ⟨w.heap.size, 4, none⟩ = some (Value.slice a2 ys1.length c2) := (Lib.cell_of_heap Xa.out 4).trans rfl
  have fa4 : w3.frozen? ⟨w.heap.size, 4, none⟩ = false := Lib.frozen_of_heap Xa.out 4
  have za : w.heap.size < w3.heap.size := hlt Xa.out
  have kr0 : w3.cell? ⟨w.heap.size + 1, 0, none⟩ = some (Value.string ⟨#[]⟩) := (Lib.cell_of_heap Xr.out 0).trans rfl
  have fr0 : w3.frozen? ⟨w.heap.size + 1, 0, none⟩ = false := Lib.frozen_of_heap Xr.out 0
  have kr1 : w3.cell? ⟨w.heap.size + 1, 1, none⟩ = some (Value.bool false) := (Lib.cell_of_heap Xr.out 1).trans rfl
  have fr1 : w3.frozen? ⟨w.heap.size + 1, 1, none⟩ = false := Lib.frozen_of_heap Xr.out 1
  have kr2 : w3.cell? ⟨w.heap.size + 1, 2, none⟩ = some (Value.slice none 0 0) := (Lib.cell_of_heap Xr.out 2).trans rfl
  have fr2 : w3.frozen? ⟨w.heap.size + 1, 2, none⟩ = false := Lib.frozen_of_heap Xr.out 2
  have kr3 : w3.cell? ⟨w.heap.size + 1, 3, none⟩ = some (Value.bool false) := (Lib.cell_of_heap Xr.out 3).trans rfl
  have fr3 : w3.frozen? ⟨w.heap.size + 1, 3, none⟩ = false := Lib.frozen_of_heap Xr.out 3
  have kr4 : w3.cell? ⟨w.heap.size + 1, 4, none⟩ = some (Value.slice none 0 0) := (Lib.cell_of_heap Xr.out 4).trans rfl
  have fr4 : w3.frozen? ⟨w.heap.size + 1, 4, none⟩ = false := Lib.frozen_of_heap Xr.out 4
  have zr : w.heap.size + 1 < w3.heap.size := hlt Xr.out
  have ko0 : w3.cell? ⟨w.heap.size + 1 + 1, 0, none⟩ = some (Value.string nm) := (Lib.cell_of_heap Xo.out 0).trans rfl
  have fo0 : w3.frozen? ⟨w.heap.size + 1 + 1, 0, none⟩ = false := Lib.frozen_of_heap Xo.out 0
  have ko1 : w3.cell? ⟨w.heap.size + 1 + 1, 1, none⟩ = some (Value.bool n1) := (Lib.cell_of_heap Xo.out 1).trans rfl
  have fo1 : w3.frozen? ⟨w.heap.size + 1 + 1, 1, none⟩ = false := Lib.frozen_of_heap Xo.out 1
  have ko2 : w3.cell? ⟨w.heap.size + 1 + 1, 2, none⟩ = some (Value.slice b1 xs1.length d1) := (Lib.cell_of_heap Xo.out 2).trans rfl
  have fo2 : w3.frozen? ⟨w.heap.size + 1 + 1, 2, none⟩ = false := Lib.frozen_of_heap Xo.out 2
  have ko3 : w3.cell? ⟨w.heap.size + 1 + 1, 3, none⟩ = some (Value.bool m1) := (Lib.cell_of_heap Xo.out 3).trans rfl
  have fo3 : w3.frozen? ⟨w.heap.size + 1 + 1, 3, none⟩ = false := Lib.frozen_of_heap Xo.out 3
  have ko4 : w3.cell? ⟨w.heap.size + 1 + 1, 4, none⟩ = some (Value.slice b2 ys1.length d2) := (Lib.cell_of_heap Xo.out 4).trans rfl
  have fo4 : w3.frozen? ⟨w.heap.size + 1 + 1, 4, none⟩ = false := Lib.frozen_of_heap Xo.out 4
  have zo : w.heap.size + 1 + 1 < w3.heap.size := hlt Xo.out
  obtain ⟨w4, ew4⟩ : ∃ x, x = (((((w3.setCell ⟨w.heap.size + 1, 0, none⟩ (Value.string nm)).setCell ⟨w.heap.size + 1, 1, none⟩ (Value.bool n1)).setCell ⟨w.heap.size + 1, 2, none⟩ (Value.slice b1 xs1.length d1)).setCell ⟨w.heap.size + 1, 3, none⟩ (Value.bool m1)).setCell ⟨w.heap.size + 1, 4, none⟩ (Value.slice b2 ys1.length d2)) := ⟨_, rfl⟩
  have hst : St (w.heap.size + 1) w3 w4 := by rw [ew4]; exact ((((((St.refl (w.heap.size + 1) w3).set 0 (Value.string nm)).set 1 (Value.bool n1)).set 2 (Value.slice b1 xs1.length d1)).set 3 (Value.bool m1)).set 4 (Value.slice b2 ys1.length d2))
  rw [← ew4]
  have XX : Hid (w4.heap[w.heap.size + 1]? = some (.cells #[Value.string nm, Value.bool n1, Value.slice b1 xs1.length d1, Value.bool m1, Value.slice b2 ys1.length d2] 57 (0, 0))) := hide (by rw [ew4]; exact (hset (hset (hset (hset (hset Xr.out 0 (Value.string nm)) 1 (Value.bool n1)) 2 (Value.slice b1 xs1.length d1)) 3 (Value.bool m1)) 4 (Value.slice b2 ys1.length d2)))
  have yw4 : w3.heap.size ≤ w4.heap.size := Nat.le_of_eq hst.size.symm
  clear ew4
  clear ka0 fa0 ka1 fa1 ka2 fa2 ka3 fa3 ka4 fa4 za
  clear kr0 fr0 kr1 fr1 kr2 fr2 kr3 fr3 kr4 fr4 zr
  clear ko0 fo0 ko1 fo1 ko2 fo2 ko3 fo3 ko4 fo4 zo
  replace Xa := hide (hst.heap Xa.out (by omega))
  replace Xo := hide (hst.heap Xo.out (by omega))
  replace O1 := hide (O1.out.st hst (by omega))
  replace O2 := hide (O2.out.st hst (by omega))
  replace HB := hide (St.below HB.out hst (by omega))
  have Xr := XX
  clear XX hst
  have ka0 : w4.cell? ⟨w.heap.size, 0, none⟩ = some (Value.string nm) := (Lib.cell_of_heap Xa.out 0).trans rfl
  have fa0 : w4.frozen? ⟨w.heap.size, 0, none⟩ = false := Lib.frozen_of_heap Xa.out 0
  have ka1 : w4.cell? ⟨w.heap.size, 1, none⟩ = some (Value.bool n1) := (Lib.cell_of_heap Xa.out 1).trans rfl
  have fa1 : w4.frozen? ⟨w.heap.size, 1, none⟩ = false := Lib.frozen_of_heap Xa.out 1
  have ka2 : w4.cell? ⟨w.heap.size, 2, none⟩ = some (Value.slice a1 xs1.length c1) := (Lib.cell_of_heap Xa.out 2).trans rfl
  have fa2 : w4.frozen? ⟨w.heap.size, 2, none⟩ = false := Lib.frozen_of_heap Xa.out 2
  have ka3 : w4.cell? ⟨w.heap.size, 3, none⟩ = some (Value.bool m1) := (Lib.cell_of_heap Xa.out 3).trans rfl
  have fa3 : w4.frozen? ⟨w.heap.size, 3, none⟩ = false := Lib.frozen_of_heap Xa.out 3
  have ka4 : w4.cell? ⟨w.heap.size, 4, none⟩ = some (Value.slice a2 ys1.length c2) := (Lib.cell_of_heap Xa.out 4).trans rfl
  have fa4 : w4.frozen? ⟨w.heap.size, 4, none⟩ = false := Lib.frozen_of_heap Xa.out 4
  have za : w.heap.size < w4.heap.size := hlt Xa.out
  have kr0 : w4.cell? ⟨w.heap.size + 1, 0, none⟩ = some (Value.string nm) := (Lib.cell_of_heap Xr.out 0).trans rfl
  have fr0 : w4.frozen? ⟨w.heap.size + 1, 0, none⟩ = false := Lib.frozen_of_heap Xr.out 0
  have kr1 : w4.cell? ⟨w.heap.size + 1, 1, none⟩ = some (Value.bool n1) := (Lib.cell_of_heap Xr.out 1).trans rfl
  have fr1 : w4.frozen? ⟨w.heap.size + 1, 1, none⟩ = false := Lib.frozen_of_heap Xr.out 1
  have kr2 : w4.cell? ⟨w.heap.size + 1, 2, none⟩ = some (Value.slice b1 xs1.length d1) := (Lib.cell_of_heap Xr.out 2).trans rfl
  have fr2 : w4.frozen? ⟨w.heap.size + 1, 2, none⟩ = false := Lib.frozen_of_heap Xr.out 2
  have kr3 : w4.cell? ⟨w.heap.size + 1, 3, none⟩ = some (Value.bool m1) := (Lib.cell_of_heap Xr.out 3).trans rfl
  have fr3 : w4.frozen? ⟨w.heap.size + 1, 3, none⟩ = false := Lib.frozen_of_heap Xr.out 3
  have kr4 : w4.cell? ⟨w.heap.size + 1, 4, none⟩ = some (Value.slice b2 ys1.length d2) := (Lib.cell_of_heap Xr.out 4).trans rfl
  have fr4 : w4.frozen? ⟨w.heap.size + 1, 4, none⟩ = false := Lib.frozen_of_heap Xr.out 4
  have zr : w.heap.size + 1 < w4.heap.size := hlt Xr.out
  have ko0 : w4.cell? ⟨w.heap.size + 1 + 1, 0, none⟩ = some (Value.string nm) := (Lib.cell_of_heap Xo.out 0).trans rfl
  have fo0 : w4.frozen? ⟨w.heap.size + 1 + 1, 0, none⟩ = false := Lib.frozen_of_heap Xo.out 0
  have ko1 : w4.cell? ⟨w.heap.size + 1 + 1, 1, none⟩ = some (Value.bool n1) := (Lib.cell_of_heap Xo.out 1).trans rfl
  have fo1 : w4.frozen? ⟨w.heap.size + 1 + 1, 1, none⟩ = false := Lib.frozen_of_heap Xo.out 1
  have ko2 : w4.cell? ⟨w.heap.size + 1 + 1, 2, none⟩ = some (Value.slice b1 xs1.length d1) := (Lib.cell_of_heap Xo.out 2).trans rfl
  have fo2 : w4.frozen? ⟨w.heap.size + 1 + 1, 2, none⟩ = false := Lib.frozen_of_heap Xo.out 2
  have ko3 : w4.cell? ⟨w.heap.size + 1 + 1, 3, none⟩ = some (Value.bool m1) := (Lib.cell_of_heap Xo.out 3).trans rfl
  have fo3 : w4.frozen? ⟨w.heap.size + 1 + 1, 3, none⟩ = false := Lib.frozen_of_heap Xo.out 3
  have ko4 : w4.cell? ⟨w.heap.size + 1 + 1, 4, none⟩ = some (Value.slice b2 ys1.length d2) := (Lib.cell_of_heap Xo.out 4).trans rfl
  have fo4 : w4.frozen? ⟨w.heap.size + 1 + 1, 4, none⟩ = false := Lib.frozen_of_heap Xo.out 4
  have zo : w.heap.size + 1 + 1 < w4.heap.size := hlt Xo.out
  refine bodyPost_ret (v := Value.agg #[Value.string nm, Value.bool n1, Value.slice b1 xs1.length d1, Value.bool m1, Value.slice b2 ys1.length d2]) (by simp [results, Tryz.results51, go_sem, kr0, kr1, kr2, kr3, kr4]) rfl ?_
  exact ⟨b1, d1, b2, d2, rfl, Own.mono O1.out (by omega), Own.mono O2.out (by omega), HB.out⟩

set_option maxHeartbeats 4000000 in
set_option maxRecDepth 20000 in
theorem Tryz.infoPf : (Tryz.prog.info? 57).map (fun i => (i.zero, i.size, i.bytes)) = some (some (.agg #[Value.string ⟨#[]⟩, Value.bool false, Value.slice none 0 0, Value.bool false, Value.slice none 0 0]), 5, 80) := by kernel_rfl

set_option maxHeartbeats 4000000 in
set_option maxRecDepth 20000 in
theorem toPfS (a : Option Addr) (n cap : Nat) (X : Nat → Prop) (rs : List (List Lf)) (w : World) (hs : RSeg w X 5 a n cap rs) (hsh : ∀ r ∈ rs, ShPf r) (hn : n ≤ 1048576) (ht : rtot rs ≤ 1048576) :
    Calls Tryz.prog 28 #[.slice a n cap] w fun e w' => ∃ g, e = .returned (.slice (some ⟨g, 0, none⟩) n n) ∧ RMade w' w.heap.size 57 5 g n n rs ∧ Below w.heap.size w w' := by
  obtain ⟨i0, hi, hz0, hz1, hz2⟩ := info_parts Tryz.infoPf
  have hxl := hs.1
  have hcap := hs.2.1
  have hcm := hs.2.2.1
  have HS := hide hs
  clear hs
  go_enter Tryz.func28, Tryz.ntmps28
  go_wp2_with (at_make; refine wpList_make_full _ rfl _ _ 29 rfl w.heap.size 57 i0 (.agg #[Value.string ⟨#[]⟩, Value.bool false, Value.slice none 0 0, Value.bool false, Value.slice none 0 0]) 5 Tryz.underlying29 hi hz0 hz1 _ _ _ _ n rfl rfl rfl rfl (by rw [hz2]; omega) (by unfold maxLen; omega) (Nat.le_refl _) ?_)
  intro w1 hown hgrow
  have hb1 : Below w.heap.size w w1 := (Below.refl _ _).grown hgrow (Nat.le_refl _) (by simp)
  have HO := hide hown
  have HB1 := hide hb1
  clear hown hgrow hb1
  go_wp2
  go_loopw [4] (fun i wr => ∃ (k : Nat), k ≤ n ∧ i = .int .i64 k ∧ Hid (RMade wr w.heap.size 57 5 w.heap.size n k rs) ∧ Hid (Below w.heap.size w wr)) (fun i _ => n - (intOf i).toNat)
  case atStart => exact ⟨0, Nat.zero_le _, rfl, hide ⟨Nat.le_refl _, ⟨_, HO.out⟩, fun j _ h => absurd h (Nat.not_lt_zero _)⟩, HB1⟩
  case round =>
    clear HO HB1
    obtain ⟨k, hk, rfl, hm, hb⟩ := hrel
    by_cases hlt : k < n
    · have hlt' : (k : Int) < (n : Int) := by omega
      have hkx : k < rs.length := by omega
      obtain ⟨g, o, rfl, hg, hrec⟩ := (HS.out.below hb.out).at hkx
      have HT := hide (Nat.le_trans (rtot_mem (List.getElem_mem hkx)) ht)
      obtain ⟨nm, n1, xs1, m1, ys1, er⟩ := hsh rs[k] (List.getElem_mem _)
      rw [er] at hrec HT
      have ER := hide er
      clear er
      have wl1 : xs1.length ≤ 1048576 := by have := HT.out; simp only [rsz, Lf.sz] at this; omega
      have wl2 : ys1.length ≤ 1048576 := by have := HT.out; simp only [rsz, Lf.sz] at this; omega
      clear HT
      obtain ⟨a1, c1, a2, c2, t0, t1, t2, t3, t4, sg1, sg2, _⟩ := openPf hrec
      have H1 := hide sg1
      have H2 := hide sg2
      clear sg1 sg2
      go_wp2_with fail
      refine (toPf nm n1 xs1 m1 ys1 a1 c1 a2 c2 wr H1.out H2.out wl1 wl2).mono ?_
      rintro e w2 ⟨b1, d1, b2, d2, rfl, ho1, ho2, hb2⟩
      have O1 := hide ho1
      have O2 := hide ho2
      have hbb := hide (bl_trans hb.out hb2)
      have hmm := hide (hm.out.below hb2)
      have hgr := (RMade.lt hm.out)
      have hgr2 := (RMade.lt hmm.out)
      clear hb2 ho1 ho2 t0 t1 t2 t3 t4
      obtain ⟨v0, D0, F0⟩ := RMade.cellAt hmm.out 0 hlt (by omega)
      obtain ⟨v1, D1, F1⟩ := RMade.cellAt hmm.out 1 hlt (by omega)
      obtain ⟨v2, D2, F2⟩ := RMade.cellAt hmm.out 2 hlt (by omega)
      obtain ⟨v3, D3, F3⟩ := RMade.cellAt hmm.out 3 hlt (by omega)
      obtain ⟨v4, D4, F4⟩ := RMade.cellAt hmm.out 4 hlt (by omega)
      rw [Nat.add_zero] at D0 F0
      go_wp2
      have hput := hmm.out.put (fun r hr => by obtain ⟨_, _, _, _, _, e⟩ := hsh r hr; rw [e]; rfl) hlt [Value.string nm, Value.bool n1, Value.slice b1 xs1.length d1, Value.bool m1, Value.slice b2 ys1.length d2] rfl (fun hk' => by rw [ER.out]; exact ⟨rfl, rfl, ⟨b1, d1, rfl, Own.seg O1.out, fun q e => Nat.lt_of_lt_of_le hgr (Own.inb O1.out q e)⟩, rfl, ⟨b2, d2, rfl, Own.seg O2.out, fun q e => Nat.lt_of_lt_of_le hgr (Own.inb O2.out q e)⟩, trivial⟩)
      have hst := st_cells w.heap.size [Value.string nm, Value.bool n1, Value.slice b1 xs1.length d1, Value.bool m1, Value.slice b2 ys1.length d2] (k * 5) _ _ (St.refl _ w2)
      simp only [World.setCells, Nat.add_assoc, Nat.reduceAdd] at hput hst
      exact ⟨⟨k + 1, by omega, by go_num, hide hput, hide (St.below hbb.out hst (Nat.le_refl _))⟩, by simp [intOf]; omega⟩
    · obtain rfl : k = n := by omega
      go_wp2
      go_ret
      exact ⟨_, rfl, hm.out, hb.out⟩


set_option maxHeartbeats 4000000 in
set_option maxRecDepth 20000 in
theorem eqPf (nm : ByteArray) (n1 : Bool) (xs1 : List Nat) (m1 : Bool) (ys1 : List Nat) (a1 : Option Addr) (c1 : Nat) (a2 : Option Addr) (c2 : Nat) (b1 : Option Addr) (d1 : Nat) (b2 : Option Addr) (d2 : Nat) (w : World) (s1 : Seg w a1 xs1.length c1 xs1) (s2 : Seg w a2 ys1.length c2 ys1) (r1 : Seg w b1 xs1.length d1 xs1) (r2 : Seg w b2 ys1.length d2 ys1) :
    Calls Tryz.prog 56 #[Value.agg #[Value.string nm, Value.bool n1, Value.slice a1 xs1.length c1, Value.bool m1, Value.slice a2 ys1.length c2], Value.agg #[Value.string nm, Value.bool n1, Value.slice b1 xs1.length d1, Value.bool m1, Value.slice b2 ys1.length d2]] w fun e w' => e = .returned (.bool true) ∧ Below w.heap.size w w' := by
  have S1 := hide s1
  have R1 := hide r1
  have S2 := hide s2
  have R2 := hide r2
  clear s1 r1 s2 r2
  have Xa : Hid (((w.alloc (Obj.cells #[Value.string nm, Value.bool n1, Value.slice a1 xs1.length c1, Value.bool m1, Value.slice a2 ys1.length c2] 57)).alloc (Obj.cells #[Value.string nm, Value.bool n1, Value.slice b1 xs1.length d1, Value.bool m1, Value.slice b2 ys1.length d2] 57)).heap[w.heap.size]? = some (.cells #[Value.string nm, Value.bool n1, Value.slice a1 xs1.length c1, Value.bool m1, Value.slice a2 ys1.length c2] 57 (0, 0))) := hide (by simpa only [World.size_alloc] using (hnewer (hnew w (Obj.cells #[Value.string nm, Value.bool n1, Value.slice a1 xs1.length c1, Value.bool m1, Value.slice a2 ys1.length c2] 57)) (Obj.cells #[Value.string nm, Value.bool n1, Value.slice b1 xs1.length d1, Value.bool m1, Value.slice b2 ys1.length d2] 57)))
  have Xb : Hid (((w.alloc (Obj.cells #[Value.string nm, Value.bool n1, Value.slice a1 xs1.length c1, Value.bool m1, Value.slice a2 ys1.length c2] 57)).alloc (Obj.cells #[Value.string nm, Value.bool n1, Value.slice b1 xs1.length d1, Value.bool m1, Value.slice b2 ys1.length d2] 57)).heap[w.heap.size + 1]? = some (.cells #[Value.string nm, Value.bool n1, Value.slice b1 xs1.length d1, Value.bool m1, Value.slice b2 ys1.length d2] 57 (0, 0))) := hide (by simpa only [World.size_alloc] using (hnew (w.alloc (Obj.cells #[Value.string nm, Value.bool n1, Value.slice a1 xs1.length c1, Value.bool m1, Value.slice a2 ys1.length c2] 57)) (Obj.cells #[Value.string nm, Value.bool n1, Value.slice b1 xs1.length d1, Value.bool m1, Value.slice b2 ys1.length d2] 57)))
  have HB : Hid (Below w.heap.size w ((w.alloc (Obj.cells #[Value.string nm, Value.bool n1, Value.slice a1 xs1.length c1, Value.bool m1, Value.slice a2 ys1.length c2] 57)).alloc (Obj.cells #[Value.string nm, Value.bool n1, Value.slice b1 xs1.length d1, Value.bool m1, Value.slice b2 ys1.length d2] 57))) := hide (bl_alloc (bl_alloc (bl_refl w) (Obj.cells #[Value.string nm, Value.bool n1, Value.slice a1 xs1.length c1, Value.bool m1, Value.slice a2 ys1.length c2] 57)) (Obj.cells #[Value.string nm, Value.bool n1, Value.slice b1 xs1.length d1, Value.bool m1, Value.slice b2 ys1.length d2] 57))
  have yw1 : w.heap.size + 2 ≤ ((w.alloc (Obj.cells #[Value.string nm, Value.bool n1, Value.slice a1 xs1.length c1, Value.bool m1, Value.slice a2 ys1.length c2] 57)).alloc (Obj.cells #[Value.string nm, Value.bool n1, Value.slice b1 xs1.length d1, Value.bool m1, Value.slice b2 ys1.length d2] 57)).heap.size := by simp only [World.size_alloc]; omega
  have ka0 : ((w.alloc (Obj.cells #[Value.string nm, Value.bool n1, Value.slice a1 xs1.length c1, Value.bool m1, Value.slice a2 ys1.length c2] 57)).alloc (Obj.cells #[Value.string nm, Value.bool n1, Value.slice b1 xs1.length d1, Value.bool m1, Value.slice b2 ys1.length d2] 57)).cell? ⟨w.heap.size, 0, none⟩ = some (Value.string nm) := (Lib.cell_of_heap Xa.out 0).trans rfl
  have fa0 : ((w.alloc (Obj.cells #[Value.string nm, Value.bool n1, Value.slice a1 xs1.length c1, Value.bool m1, Value.slice a2 ys1.length c2] 57)).alloc (Obj.cells #[Value.string nm, Value.bool n1, Value.slice b1 xs1.length d1, Value.bool m1, Value.slice b2 ys1.length d2] 57)).frozen? ⟨w.heap.size, 0, none⟩ = false := Lib.frozen_of_heap Xa.out 0
  have ka1 : ((w.alloc (Obj.cells #[Value.string nm, Value.bool n1, Value.slice a1 xs1.length c1, Value.bool m1, Value.slice a2 ys1.length c2] 57)).alloc (Obj.cells #[Value.string nm, Value.bool n1, Value.slice b1 xs1.length d1, Value.bool m1, Value.slice b2 ys1.length d2] 57)).cell? ⟨w.heap.size, 1, none⟩ = some (Value.bool n1) := (Lib.cell_of_heap Xa.out 1).trans rfl
  have fa1 : ((w.alloc (Obj.cells #[Value.string nm, Value.bool n1, Value.slice a1 xs1.length c1, Value.bool m1, Value.slice a2 ys1.length c2] 57)).alloc (Obj.cells #[Value.string nm, Value.bool n1, Value.slice b1 xs1.length d1, Value.bool m1, Value.slice b2 ys1.length d2] 57)).frozen? ⟨w.heap.size, 1, none⟩ = false := Lib.frozen_of_heap Xa.out 1
  have ka2 : ((w.alloc (Obj.cells #[Value.string nm, Value.bool n1, Value.slice a1 xs1.length c1, Value.bool m1, Value.slice a2 ys1.length c2] 57)).alloc (Obj.cells #[Value.string nm, Value.bool n1, Value.slice b1 xs1.length d1, Value.bool m1, Value.slice b2 ys1.length d2] 57)).cell? ⟨w.heap.size, 2, none⟩ = some (Value.slice a1 xs1.length c1) := (Lib.cell_of_heap Xa.out 2).trans rfl
  have fa2 : ((w.alloc (Obj.cells #[Value.string nm, Value.bool n1, Value.slice a1 xs1.length c1, Value.bool m1, Value.slice a2 ys1.length c2] 57)).alloc (Obj.cells #[Value.string nm, Value.bool n1, Value.slice b1 xs1.length d1, Value.bool m1, Value.slice b2 ys1.length d2] 57)).frozen? ⟨w.heap.size, 2, none⟩ = false := Lib.frozen_of_heap Xa.out 2
  have ka3 : ((w.alloc (Obj.cells #[Value.string nm, Value.bool n1, Value.slice a1 xs1.length c1, Value.bool m1, Value.slice a2 ys1.length c2] 57)).alloc (Obj.cells #[Value.string nm, Value.bool n1, Value.slice b1 xs1.length d1, Value.bool m1, Value.slice b2 ys1.length d2] 57)).cell? ⟨w.heap.size, 3, none⟩ = some (Value.bool m1) := (Lib.cell_of_heap Xa.out 3).trans rfl
  have fa3 : ((w.alloc (Obj.cells #[Value.string nm, Value.bool n1, Value.slice a1 xs1.length c1, Value.bool m1, Value.slice a2 ys1.length c2] 57)).alloc (Obj.cells #[Value.string nm, Value.bool n1, Value.slice b1 xs1.length d1, Value.bool m1, Value.slice b2 ys1.length d2] 57)).frozen? ⟨w.heap.size, 3, none⟩ = false := Lib.frozen_of_heap Xa.out 3
  have ka4 : ((w.alloc (Obj.cells #[Value.string nm, Value.bool n1, Value.slice a1 xs1.length c1, Value.bool m1, Value.slice a2 ys1.length c2] 57)).alloc (Obj.cells #[Value.string nm, Value.bool n1, Value.slice b1 xs1.length d1, Value.bool m1, Value.slice b2 ys1.length d2] 57)).cell? ⟨w.heap.size, 4, none⟩ = some (Value.slice a2 ys1.length c2) := (Lib.cell_of_heap Xa.out 4).trans rfl
  have fa4 : ((w.alloc (Obj.cells #[Value.string nm, Value.bool n1, Value.slice a1 xs1.length c1, Value.bool m1, Value.slice a2 ys1.length c2] 57)).alloc (Obj.cells #[Value.string nm, Value.bool n1, Value.slice b1 xs1.length d1, Value.bool m1, Value.slice b2 ys1.length d2] 57)).frozen? ⟨w.heap.size, 4, none⟩ = false := Lib.frozen_of_heap Xa.out 4
  have za : w.heap.size < ((w.alloc (Obj.cells #[Value.string nm, Value.bool n1, Value.slice a1 xs1.length c1, Value.bool m1, Value.slice a2 ys1.length c2] 57)).alloc (Obj.cells #[Value.string nm, Value.bool n1, Value.slice b1 xs1.length d1, Value.bool m1, Value.slice b2 ys1.length d2] 57)).heap.size := hlt Xa.out
  have kb0 : ((w.alloc (Obj.cells #[Value.string nm, Value.bool n1, Value.slice a1 xs1.length c1, Value.bool m1, Value.slice a2 ys1.length c2] 57)).alloc (Obj.cells #[Value.string nm, Value.bool n1, Value.slice b1 xs1.length d1, Value.bool m1, Value.slice b2 ys1.length d2] 57)).cell? ⟨w.heap.size + 1, 0, none⟩ = some (Value.string nm) := (Lib.cell_of_heap Xb.out 0).trans rfl
  have fb0 : ((w.alloc (Obj.cells #[Value.string nm, Value.bool n1, Value.slice a1 xs1.length c1, Value.bool m1, Value.slice a2 ys1.length c2] 57)).alloc (Obj.cells #[Value.string nm, Value.bool n1, Value.slice b1 xs1.length d1, Value.bool m1, Value.slice b2 ys1.length d2] 57)).frozen? ⟨w.heap.size + 1, 0, none⟩ = false := Lib.frozen_of_heap Xb.out 0
  have kb1 : ((w.alloc (Obj.cells #[Value.string nm, Value.bool n1, Value.slice a1 xs1.length c1, Value.bool m1, Value.slice a2 ys1.length c2] 57)).alloc (Obj.cells #[Value.string nm, Value.bool n1, Value.slice b1 xs1.length d1, Value.bool m1, Value.slice b2 ys1.length d2] 57)).cell? ⟨w.heap.size + 1, 1, none⟩ = some (Value.bool n1) := (Lib.cell_of_heap Xb.out 1).trans rfl
  have fb1 : ((w.alloc (Obj.cells #[Value.string nm, Value.bool n1, Value.slice a1 xs1.length c1, Value.bool m1, Value.slice a2 ys1.length c2] 57)).alloc (Obj.cells #[Value.string nm, Value.bool n1, Value.slice b1 xs1.length d1, Value.bool m1, Value.slice b2 ys1.length d2] 57)).frozen? ⟨w.heap.size + 1, 1, none⟩ = false := Lib.frozen_of_heap Xb.out 1
  have kb2 : ((w.alloc (Obj.cells #[Value.string nm, Value.bool n1, Value.slice a1 xs1.length c1, Value.bool m1, Value.slice a2 ys1.length c2] 57)).alloc (Obj.cells #[Value.string nm, Value.bool n1, Value.slice b1 xs1.length d1, Value.bool m1, Value.slice b2 ys1.length d2] 57)).cell? ⟨w.heap.size + 1, 2, none⟩ = some (Value.slice b1 xs1.length d1) := (Lib.cell_of_heap Xb.out 2).trans rfl
  have fb2 : ((w.alloc (Obj.cells #[Value.string nm, Value.bool n1, Value.slice a1 xs1.length c1, Value.bool m1, Value.slice a2 ys1.length c2] 57)).alloc (Obj.cells #[Value.string nm, Value.bool n1, Value.slice b1 xs1.length d1, Value.bool m1, Value.slice b2 ys1.length d2] 57)).frozen? ⟨w.heap.size + 1, 2, none⟩ = false := Lib.frozen_of_heap Xb.out 2
  have kb3 : ((w.alloc (Obj.cells #[Value.string nm, Value.bool n1, Value.slice a1 xs1.length c1, Value.bool m1, Value.slice a2 ys1.length c2] 57)).alloc (Obj.cells #[Value.string nm, Value.bool n1, Value.slice b1 xs1.length d1, Value.bool m1, Value.slice b2 ys1.length d2] 57)).cell? ⟨w.heap.size + 1, 3, none⟩ = some (Value.bool m1) := (Lib.cell_of_heap Xb.out 3).trans rfl
  have fb3 : ((w.alloc (Obj.cells #[Value.string nm, Value.bool n1, Value.slice a1 xs1.length c1, Value.bool m1, Value.slice a2 ys1.length c2] 57)).alloc (Obj.cells #[Value.string nm, Value.bool n1, Value.slice b1 xs1.length d1, Value.bool m1, Value.slice b2 ys1.length d2] 57)).frozen? ⟨w.heap.size + 1, 3, none⟩ = false := Lib.frozen_of_heap Xb.out 3
  have kb4 : ((w.alloc (Obj.cells #[Value.string nm, Value.bool n1, Value.slice a1 xs1.length c1, Value.bool m1, Value.slice a2 ys1.length c2] 57)).alloc (Obj.cells #[Value.string nm, Value.bool n1, Value.slice b1 xs1.length d1, Value.bool m1, Value.slice b2 ys1.length d2] 57)).cell? ⟨w.heap.size + 1, 4, none⟩ = some (Value.slice b2 ys1.length d2) := (Lib.cell_of_heap Xb.out 4).trans rfl
  have fb4 : ((w.alloc (Obj.cells #[Value.string nm, Value.bool n1, Value.slice a1 xs1.length c1, Value.bool m1, Value.slice a2 ys1.length c2] 57)).alloc (Obj.cells #[Value.string nm, Value.bool n1, Value.slice b1 xs1.length d1, Value.bool m1, Value.slice b2 ys1.length d2] 57)).frozen? ⟨w.heap.size + 1, 4, none⟩ = false := Lib.frozen_of_heap Xb.out 4
  have zb : w.heap.size + 1 < ((w.alloc (Obj.cells #[Value.string nm, Value.bool n1, Value.slice a1 xs1.length c1, Value.bool m1, Value.slice a2 ys1.length c2] 57)).alloc (Obj.cells #[Value.string nm, Value.bool n1, Value.slice b1 xs1.length d1, Value.bool m1, Value.slice b2 ys1.length d2] 57)).heap.size := hlt Xb.out
  go_enter Tryz.func56, Tryz.ntmps56
  go_wp2_with fail
  generalize ((w.alloc (Obj.cells #[Value.string nm, Value.bool n1, Value.slice a1 xs1.length c1, Value.bool m1, Value.slice a2 ys1.length c2] 57)).alloc (Obj.cells #[Value.string nm, Value.bool n1, Value.slice b1 xs1.length d1, Value.bool m1, Value.slice b2 ys1.length d2] 57)) = w1 at *
  refine (eqR n1 xs1 m1 ys1 a1 c1 a2 c2 b1 d1 b2 d2 _ (S1.out.below HB.out) (S2.out.below HB.out) (R1.out.below HB.out) (R2.out.below HB.out)).mono ?_
  rintro e w2 ⟨rfl, hb⟩
  have yw2 := hb.size
  clear ka0 fa0 ka1 fa1 ka2 fa2 ka3 fa3 ka4 fa4 za
  clear kb0 fb0 kb1 fb1 kb2 fb2 kb3 fb3 kb4 fb4 zb
  replace Xa := hide (hbel Xa.out hb (by first | assumption | omega))
  replace Xb := hide (hbel Xb.out hb (by first | assumption | omega))
  replace HB := hide (bl_trans HB.out hb)
  clear hb
  have ka0 : w2.cell? ⟨w.heap.size, 0, none⟩ = some (Value.string nm) := (Lib.cell_of_heap Xa.out 0).trans rfl
  have fa0 : w2.frozen? ⟨w.heap.size, 0, none⟩ = false := Lib.frozen_of_heap Xa.out 0
  have ka1 : w2.cell? ⟨w.heap.size, 1, none⟩ = some (Value.bool n1) := (Lib.cell_of_heap Xa.out 1).trans rfl
  have fa1 : w2.frozen? ⟨w.heap.size, 1, none⟩ = false := Lib.frozen_of_heap Xa.out 1
  have ka2 : w2.cell? ⟨w.heap.size, 2, none⟩ = some (Value.slice a1 xs1.length c1) := (Lib.cell_of_heap Xa.out 2).trans rfl
  have fa2 : w2.frozen? ⟨w.heap.size, 2, none⟩ = false := Lib.frozen_of_heap Xa.out 2
  have ka3 : w2.cell? ⟨w.heap.size, 3, none⟩ = some (Value.bool m1) := (Lib.cell_of_heap Xa.out 3).trans rfl
  have fa3 : w2.frozen? ⟨w.heap.size, 3, none⟩ = false := Lib.frozen_of_heap Xa.out 3
  have ka4 : w2.cell? ⟨w.heap.size, 4, none⟩ = some (Value.slice a2 ys1.length c2) := (Lib.cell_of_heap Xa.out 4).trans rfl
  have fa4 : w2.frozen? ⟨w.heap.size, 4, none⟩ = false := Lib.frozen_of_heap Xa.out 4
  have za : w.heap.size < w2.heap.size := hlt Xa.out
  have kb0 : w2.cell? ⟨w.heap.size + 1, 0, none⟩ = some (Value.string nm) := (Lib.cell_of_heap Xb.out 0).trans rfl
  have fb0 : w2.frozen? ⟨w.heap.size + 1, 0, none⟩ = false := Lib.frozen_of_heap Xb.out 0
  have kb1 : w2.cell? ⟨w.heap.size + 1, 1, none⟩ = some (Value.bool n1) := (Lib.cell_of_heap Xb.out 1).trans rfl
  have fb1 : w2.frozen? ⟨w.heap.size + 1, 1, none⟩ = false := Lib.frozen_of_heap Xb.out 1
  have kb2 : w2.cell? ⟨w.heap.size + 1, 2, none⟩ = some (Value.slice b1 xs1.length d1) := (Lib.cell_of_heap Xb.out 2).trans rfl
  have fb2 : w2.frozen? ⟨w.heap.size + 1, 2, none⟩ = false := Lib.frozen_of_heap Xb.out 2
  have kb3 : w2.cell? ⟨w.heap.size + 1, 3, none⟩ = some (Value.bool m1) := (Lib.cell_of_heap Xb.out 3).trans rfl
  have fb3 : w2.frozen? ⟨w.heap.size + 1, 3, none⟩ = false := Lib.frozen_of_heap Xb.out 3
  have kb4 : w2.cell? ⟨w.heap.size + 1, 4, none⟩ = some (Value.slice b2 ys1.length d2) := (Lib.cell_of_heap Xb.out 4).trans rfl
  have fb4 : w2.frozen? ⟨w.heap.size + 1, 4, none⟩ = false := Lib.frozen_of_heap Xb.out 4
  have zb : w.heap.size + 1 < w2.heap.size := hlt Xb.out
  go_wp2
  go_ret
  exact ⟨rfl, HB.out⟩

set_option maxHeartbeats 4000000 in
set_option maxRecDepth 20000 in
theorem eqPfS (a b : Option Addr) (n ca cb : Nat) (X Y : Nat → Prop) (rs : List (List Lf)) (w : World) (h1 : RSeg w X 5 a n ca rs) (h2 : RSeg w Y 5 b n cb rs) (hsh : ∀ r ∈ rs, ShPf r) :
    Calls Tryz.prog 32 #[.slice a n ca, .slice b n cb] w fun e w' => e = .returned (.bool true) ∧ Below w.heap.size w w' := by
  have hxl := h1.1
  have hca := h1.2.1
  have hcma := h1.2.2.1
  have hcb := h2.2.1
  have hcmb := h2.2.2.1
  have HA := hide h1
  have HBB := hide h2
  clear h1 h2
  go_enter Tryz.func32, Tryz.ntmps32
  go_wp2
  go_loopw [5] (fun i wr => ∃ k : Nat, k ≤ n ∧ i = .int .i64 k ∧ Hid (Below w.heap.size w wr)) (fun i _ => n - (intOf i).toNat)
  case atStart => exact ⟨0, Nat.zero_le _, rfl, hide (bl_refl w)⟩
  case round =>
    obtain ⟨k, hk, rfl, hb⟩ := hrel
    by_cases hlt : k < n
    · have hlt' : (k : Int) < (n : Int) := by omega
      have hkx : k < rs.length := by omega
      obtain ⟨g, o, rfl, hg, hrec⟩ := (HA.out.below hb.out).at hkx
      obtain ⟨g2, o2, rfl, hg2, hrec2⟩ := (HBB.out.below hb.out).at hkx
      obtain ⟨nm, n1, xs1, m1, ys1, er⟩ := hsh rs[k] (List.getElem_mem _)
      rw [er] at hrec hrec2
      clear er
      obtain ⟨a1, c1, a2, c2, t0, t1, t2, t3, t4, sg1, sg2, _⟩ := openPf hrec
      have H1 := hide sg1
      have H2 := hide sg2
      clear sg1 sg2
      obtain ⟨b1, d1, b2, d2, u0, u1, u2, u3, u4, rg1, rg2, _⟩ := openPf hrec2
      have R1 := hide rg1
      have R2 := hide rg2
      clear rg1 rg2
      go_wp2_with fail
      go_region_held3 (fun w' => w'.cell? ⟨g, o + k * 5, none⟩ = some (Value.string nm) ∧ w'.cell? ⟨g, o + k * 5 + 1, none⟩ = some (Value.bool n1) ∧ w'.cell? ⟨g, o + k * 5 + 2, none⟩ = some (Value.slice a1 xs1.length c1) ∧ w'.cell? ⟨g, o + k * 5 + 3, none⟩ = some (Value.bool m1) ∧ w'.cell? ⟨g, o + k * 5 + 4, none⟩ = some (Value.slice a2 ys1.length c2) ∧ w'.cell? ⟨g2, o2 + k * 5, none⟩ = some (Value.string nm) ∧ w'.cell? ⟨g2, o2 + k * 5 + 1, none⟩ = some (Value.bool n1) ∧ w'.cell? ⟨g2, o2 + k * 5 + 2, none⟩ = some (Value.slice b1 xs1.length d1) ∧ w'.cell? ⟨g2, o2 + k * 5 + 3, none⟩ = some (Value.bool m1) ∧ w'.cell? ⟨g2, o2 + k * 5 + 4, none⟩ = some (Value.slice b2 ys1.length d2))
        (first
          | exact ⟨t0, t1, t2, t3, t4, u0, u1, u2, u3, u4⟩
          | exact ⟨(hb2.cell (p := ⟨g, o + k * 5, none⟩) hg).trans t0, (hb2.cell (p := ⟨g, o + k * 5 + 1, none⟩) hg).trans t1, (hb2.cell (p := ⟨g, o + k * 5 + 2, none⟩) hg).trans t2, (hb2.cell (p := ⟨g, o + k * 5 + 3, none⟩) hg).trans t3, (hb2.cell (p := ⟨g, o + k * 5 + 4, none⟩) hg).trans t4, (hb2.cell (p := ⟨g2, o2 + k * 5, none⟩) hg2).trans u0, (hb2.cell (p := ⟨g2, o2 + k * 5 + 1, none⟩) hg2).trans u1, (hb2.cell (p := ⟨g2, o2 + k * 5 + 2, none⟩) hg2).trans u2, (hb2.cell (p := ⟨g2, o2 + k * 5 + 3, none⟩) hg2).trans u3, (hb2.cell (p := ⟨g2, o2 + k * 5 + 4, none⟩) hg2).trans u4⟩)
        (first
          | (go_at_call 56; refine (eqPf nm n1 xs1 m1 ys1 a1 c1 a2 c2 b1 d1 b2 d2 _ (H1.out.below (bl_refl wr).drew) (H2.out.below (bl_refl wr).drew) (R1.out.below (bl_refl wr).drew) (R2.out.below (bl_refl wr).drew)).mono ?_; rintro e w2 ⟨rfl, hb2'⟩; have hb2 : Below wr.heap.size wr w2 := (bl_refl wr).drew.trans hb2'))
      all_goals go_wp2
      all_goals exact ⟨⟨k + 1, by omega, by go_num, hide (bl_trans hb.out hb2)⟩, by simp [intOf]; omega⟩
    · obtain rfl : k = n := by omega
      go_wp2
      go_ret
      exact ⟨rfl, hb.out⟩

end Go.Proofs.YtnjaejaibbgkpaaGreat

/- What the law asks of a book: how great it is, a copy of it, whether two are alike. -/
namespace Go.Proofs.YtnjaejaibbgkpaaGreat
open Go.RowKit
set_option linter.unusedVariables false
set_option maxRecDepth 20000

/-- what the law counts of a book -/
def bksz (bs : List ByteArray) (ps us : List (List Lf)) : Nat := bs.length + stot bs + (ps.length + rtot ps) + (us.length + rtot us)
theorem SSeg.st {N : Nat} {w w' : World} {g o n cap : Nat} {ts : List ByteArray} (h : SSeg w (some ⟨g, o, none⟩) n cap ts) (k : St N w w') (hg : g ≠ N) : SSeg w' (some ⟨g, o, none⟩) n cap ts := by
  obtain ⟨h1, h2, h3, h4, h5⟩ := h
  refine ⟨h1, h2, h3, h4, ?_⟩
  rcases h5 with h5 | ⟨g', o', ha, hg', hc⟩
  · exact .inl h5
  · cases ha
    exact .inr ⟨g, o, rfl, by rw [k.size]; exact hg', fun j hj => (k.cell (p := ⟨g, o + j, none⟩) hg).trans (hc j hj)⟩
theorem RSeg.st {N : Nat} {w w' : World} {X : Nat → Prop} {s g o n cap : Nat} {rs : List (List Lf)} (h : RSeg w X s (some ⟨g, o, none⟩) n cap rs) (k : St N w w') (hg : g ≠ N) (hX : ∀ k, X k → k ≠ N) : RSeg w' X s (some ⟨g, o, none⟩) n cap rs := by
  obtain ⟨h1, h2, h3, h4, h5⟩ := h
  refine ⟨h1, h2, h3, h4, ?_⟩
  rcases h5 with h5 | ⟨g', o', ha, hg', hc⟩
  · exact .inl h5
  · cases ha
    exact .inr ⟨g, o, rfl, by rw [k.size]; exact hg', fun j hj => (hc j hj).st k hX hg⟩

set_option maxHeartbeats 4000000 in
set_option maxRecDepth 20000 in
theorem szBk (a : Option Addr) (n c : Nat) (b : Option Addr) (m d : Nat) (e : Option Addr) (l f : Nat) (bs : List ByteArray) (ps us : List (List Lf)) (X Y : Nat → Prop) (L : Int) (w : World) (hs : SSeg w a n c bs) (hp : RSeg w X 5 b m d ps) (hsp : ∀ r ∈ ps, ShPf r) (hu : RSeg w Y 7 e l f us) (hsu : ∀ r ∈ us, ShUn r) (h0 : 0 ≤ L) (h1 : L ≤ 1048576) :
    Calls Tryz.prog 5 #[Value.agg #[Value.slice a n c, Value.slice b m d, Value.slice e l f], .int .i64 L] w fun e w' => e = .returned (.int .i64 (rleft L (bksz bs ps us))) ∧ Below w.heap.size w w' := by
  have e1 := hs.1
  have e2 := hp.1
  have e3 := hu.1
  have HZ : Hid (bksz bs ps us = n + stot bs + (m + rtot ps) + (l + rtot us)) := hide (by unfold bksz; omega)
  have HS := hide hs
  have HP := hide hp
  have HU := hide hu
  clear hs hp hu
  have Xa : Hid ((w.alloc (Obj.cells #[Value.slice a n c, Value.slice b m d, Value.slice e l f] 26)).heap[w.heap.size]? = some (.cells #[Value.slice a n c, Value.slice b m d, Value.slice e l f] 26 (0, 0))) := hide (by simpa only [World.size_alloc] using (hnew w (Obj.cells #[Value.slice a n c, Value.slice b m d, Value.slice e l f] 26)))
  have HB : Hid (Below w.heap.size w (w.alloc (Obj.cells #[Value.slice a n c, Value.slice b m d, Value.slice e l f] 26))) := hide (bl_alloc (bl_refl w) (Obj.cells #[Value.slice a n c, Value.slice b m d, Value.slice e l f] 26))
  have yw1 : w.heap.size + 1 ≤ (w.alloc (Obj.cells #[Value.slice a n c, Value.slice b m d, Value.slice e l f] 26)).heap.size := by simp only [World.size_alloc]; omega
  have ka0 : (w.alloc (Obj.cells #[Value.slice a n c, Value.slice b m d, Value.slice e l f] 26)).cell? ⟨w.heap.size, 0, none⟩ = some (Value.slice a n c) := (Lib.cell_of_heap Xa.out 0).trans rfl
  have fa0 : (w.alloc (Obj.cells #[Value.slice a n c, Value.slice b m d, Value.slice e l f] 26)).frozen? ⟨w.heap.size, 0, none⟩ = false := Lib.frozen_of_heap Xa.out 0
  have ka1 : (w.alloc (Obj.cells #[Value.slice a n c, Value.slice b m d, Value.slice e l f] 26)).cell? ⟨w.heap.size, 1, none⟩ = some (Value.slice b m d) := (Lib.cell_of_heap Xa.out 1).trans rfl
  have fa1 : (w.alloc (Obj.cells #[Value.slice a n c, Value.slice b m d, Value.slice e l f] 26)).frozen? ⟨w.heap.size, 1, none⟩ = false := Lib.frozen_of_heap Xa.out 1
  have ka2 : (w.alloc (Obj.cells #[Value.slice a n c, Value.slice b m d, Value.slice e l f] 26)).cell? ⟨w.heap.size, 2, none⟩ = some (Value.slice e l f) := (Lib.cell_of_heap Xa.out 2).trans rfl
  have fa2 : (w.alloc (Obj.cells #[Value.slice a n c, Value.slice b m d, Value.slice e l f] 26)).frozen? ⟨w.heap.size, 2, none⟩ = false := Lib.frozen_of_heap Xa.out 2
  have za : w.heap.size < (w.alloc (Obj.cells #[Value.slice a n c, Value.slice b m d, Value.slice e l f] 26)).heap.size := hlt Xa.out
  go_enter Tryz.func5, Tryz.ntmps5
  go_wp2_with fail
  generalize (w.alloc (Obj.cells #[Value.slice a n c, Value.slice b m d, Value.slice e l f] 26)) = w1 at *
  refine (szSS a n c bs L _ (HS.out.below HB.out) h0 h1).mono ?_
  rintro e w2 ⟨rfl, hb⟩
  have yw2 := hb.size
  clear ka0 fa0 ka1 fa1 ka2 fa2 za
  replace Xa := hide (hbel Xa.out hb (by first | assumption | omega))
  replace HB := hide (bl_trans HB.out hb)
  clear hb
  have ka0 : w2.cell? ⟨w.heap.size, 0, none⟩ = some (Value.slice a n c) := (Lib.cell_of_heap Xa.out 0).trans rfl
  have fa0 : w2.frozen? ⟨w.heap.size, 0, none⟩ = false := Lib.frozen_of_heap Xa.out 0
  have ka1 : w2.cell? ⟨w.heap.size, 1, none⟩ = some (Value.slice b m d) := (Lib.cell_of_heap Xa.out 1).trans rfl
  have fa1 : w2.frozen? ⟨w.heap.size, 1, none⟩ = false := Lib.frozen_of_heap Xa.out 1
  have ka2 : w2.cell? ⟨w.heap.size, 2, none⟩ = some (Value.slice e l f) := (Lib.cell_of_heap Xa.out 2).trans rfl
  have fa2 : w2.frozen? ⟨w.heap.size, 2, none⟩ = false := Lib.frozen_of_heap Xa.out 2
  have za : w.heap.size < w2.heap.size := hlt Xa.out
  have hz1 : szr L n (stot bs) = rleft L (n + stot bs) := by unfold szr rleft; (repeat' split) <;> omega
  rw [hz1]
  clear hz1
  by_cases d1 : L < ((n + stot bs : Nat) : Int)
  · have hr1 : rleft (L) (n + stot bs) = -1 := by unfold rleft; rw [if_pos d1]
    rw [hr1]
    go_wp2
    go_ret
    exact ⟨ret_int (by rw [HZ.out]; unfold rleft; rw [if_pos (by first | omega | (have := EQ1.out; omega) | (have := EQ1.out; have := EQ2.out; omega))]), HB.out⟩
  have hr1 : rleft (L) (n + stot bs) = L - ((n + stot bs : Nat) : Int) := by unfold rleft; rw [if_neg d1]
  rw [hr1]
  clear hr1
  obtain ⟨q1, eq1⟩ : ∃ q, q = L - ((n + stot bs : Nat) : Int) := ⟨_, rfl⟩
  rw [← eq1]
  have hq1 : ¬ q1 < 0 := by omega
  have hQ1 : 0 ≤ q1 ∧ q1 ≤ 1048576 := by omega
  have EQ1 := hide eq1
  clear eq1
  go_wp2_with fail
  refine (szPfS b m d X ps q1 _ (HP.out.below HB.out) hsp hQ1.1 hQ1.2).mono ?_
  rintro e w3 ⟨rfl, hb⟩
  have yw3 := hb.size
  clear ka0 fa0 ka1 fa1 ka2 fa2 za
  replace Xa := hide (hbel Xa.out hb (by first | assumption | omega))
  replace HB := hide (bl_trans HB.out hb)
  clear hb
  have ka0 : w3.cell? ⟨w.heap.size, 0, none⟩ = some (Value.slice a n c) := (Lib.cell_of_heap Xa.out 0).trans rfl
  have fa0 : w3.frozen? ⟨w.heap.size, 0, none⟩ = false := Lib.frozen_of_heap Xa.out 0
  have ka1 : w3.cell? ⟨w.heap.size, 1, none⟩ = some (Value.slice b m d) := (Lib.cell_of_heap Xa.out 1).trans rfl
  have fa1 : w3.frozen? ⟨w.heap.size, 1, none⟩ = false := Lib.frozen_of_heap Xa.out 1
  have ka2 : w3.cell? ⟨w.heap.size, 2, none⟩ = some (Value.slice e l f) := (Lib.cell_of_heap Xa.out 2).trans rfl
  have fa2 : w3.frozen? ⟨w.heap.size, 2, none⟩ = false := Lib.frozen_of_heap Xa.out 2
  have za : w.heap.size < w3.heap.size := hlt Xa.out
  by_cases d2 : q1 < ((m + rtot ps : Nat) : Int)
  · have hr2 : rleft (q1) (m + rtot ps) = -1 := by unfold rleft; rw [if_pos d2]
    rw [hr2]
    go_wp2
    go_ret
    exact ⟨ret_int (by rw [HZ.out]; unfold rleft; rw [if_pos (by first | omega | (have := EQ1.out; omega) | (have := EQ1.out; have := EQ2.out; omega))]), HB.out⟩
  have hr2 : rleft (q1) (m + rtot ps) = q1 - ((m + rtot ps : Nat) : Int) := by unfold rleft; rw [if_neg d2]
  rw [hr2]
  clear hr2
  obtain ⟨q2, eq2⟩ : ∃ q, q = q1 - ((m + rtot ps : Nat) : Int) := ⟨_, rfl⟩
  rw [← eq2]
  have hq2 : ¬ q2 < 0 := by omega
  have hQ2 : 0 ≤ q2 ∧ q2 ≤ 1048576 := by omega
  have EQ2 := hide eq2
  clear eq2
  go_wp2_with fail
  refine (szUnS e l f Y us q2 _ (HU.out.below HB.out) hsu hQ2.1 hQ2.2).mono ?_
  rintro e w4 ⟨rfl, hb⟩
  have yw4 := hb.size
  clear ka0 fa0 ka1 fa1 ka2 fa2 za
  replace Xa := hide (hbel Xa.out hb (by first | assumption | omega))
  replace HB := hide (bl_trans HB.out hb)
  clear hb
  have ka0 : w4.cell? ⟨w.heap.size, 0, none⟩ = some (Value.slice a n c) := (Lib.cell_of_heap Xa.out 0).trans rfl
  have fa0 : w4.frozen? ⟨w.heap.size, 0, none⟩ = false := Lib.frozen_of_heap Xa.out 0
  have ka1 : w4.cell? ⟨w.heap.size, 1, none⟩ = some (Value.slice b m d) := (Lib.cell_of_heap Xa.out 1).trans rfl
  have fa1 : w4.frozen? ⟨w.heap.size, 1, none⟩ = false := Lib.frozen_of_heap Xa.out 1
  have ka2 : w4.cell? ⟨w.heap.size, 2, none⟩ = some (Value.slice e l f) := (Lib.cell_of_heap Xa.out 2).trans rfl
  have fa2 : w4.frozen? ⟨w.heap.size, 2, none⟩ = false := Lib.frozen_of_heap Xa.out 2
  have za : w.heap.size < w4.heap.size := hlt Xa.out
  by_cases d3 : q2 < ((l + rtot us : Nat) : Int)
  · have hr3 : rleft (q2) (l + rtot us) = -1 := by unfold rleft; rw [if_pos d3]
    rw [hr3]
    go_wp2
    go_ret
    exact ⟨ret_int (by rw [HZ.out]; unfold rleft; rw [if_pos (by first | omega | (have := EQ1.out; omega) | (have := EQ1.out; have := EQ2.out; omega))]), HB.out⟩
  have hr3 : rleft (q2) (l + rtot us) = q2 - ((l + rtot us : Nat) : Int) := by unfold rleft; rw [if_neg d3]
  rw [hr3]
  clear hr3
  obtain ⟨q3, eq3⟩ : ∃ q, q = q2 - ((l + rtot us : Nat) : Int) := ⟨_, rfl⟩
  rw [← eq3]
  have hq3 : ¬ q3 < 0 := by omega
  have hQ3 : 0 ≤ q3 ∧ q3 ≤ 1048576 := by omega
  have EQ3 := hide eq3
  clear eq3
  go_wp2
  go_ret
  exact ⟨ret_int (by rw [HZ.out]; unfold rleft; have := EQ1.out; have := EQ2.out; have := EQ3.out; rw [if_neg (by omega)]; omega), HB.out⟩

set_option maxHeartbeats 4000000 in
set_option maxRecDepth 20000 in
theorem toBk (a : Option Addr) (n c : Nat) (b : Option Addr) (m d : Nat) (e : Option Addr) (l f : Nat) (bs : List ByteArray) (ps us : List (List Lf)) (X Y : Nat → Prop) (w : World) (hs : SSeg w a n c bs) (hp : RSeg w X 5 b m d ps) (hsp : ∀ r ∈ ps, ShPf r) (hu : RSeg w Y 7 e l f us) (hsu : ∀ r ∈ us, ShUn r) (ht : bksz bs ps us ≤ 1048576) :
    Calls Tryz.prog 7 #[Value.agg #[Value.slice a n c, Value.slice b m d, Value.slice e l f]] w fun e w' => ∃ g1 g2 g3, e = .returned (Value.agg #[Value.slice (some ⟨g1, 0, none⟩) n n, Value.slice (some ⟨g2, 0, none⟩) m m, Value.slice (some ⟨g3, 0, none⟩) l l]) ∧ SSeg w' (some ⟨g1, 0, none⟩) n n bs ∧ RSeg w' (fun k => g2 < k) 5 (some ⟨g2, 0, none⟩) m m ps ∧ RSeg w' (fun k => g3 < k) 7 (some ⟨g3, 0, none⟩) l l us ∧ Below w.heap.size w w' := by
  have e1 := hs.1
  have e2 := hp.1
  have e3 := hu.1
  have hn1 : n ≤ 1048576 ∧ m ≤ 1048576 ∧ l ≤ 1048576 ∧ rtot ps ≤ 1048576 ∧ rtot us ≤ 1048576 := by unfold bksz at ht; omega
  have W2 := hide hp.2.2.2.1
  have W3 := hide hu.2.2.2.1
  have HS := hide hs
  have HP := hide hp
  have HU := hide hu
  clear hs hp hu ht
  have Xa : Hid ((((w.alloc (Obj.cells #[Value.slice a n c, Value.slice b m d, Value.slice e l f] 26)).alloc (Obj.cells #[Value.slice none 0 0, Value.slice none 0 0, Value.slice none 0 0] 32)).alloc (Obj.cells #[Value.slice none 0 0, Value.slice none 0 0, Value.slice none 0 0] 32)).heap[w.heap.size]? = some (.cells #[Value.slice a n c, Value.slice b m d, Value.slice e l f] 26 (0, 0))) := hide (by simpa only [World.size_alloc] using (hnewer (hnewer (hnew w (Obj.cells #[Value.slice a n c, Value.slice b m d, Value.slice e l f] 26)) (Obj.cells #[Value.slice none 0 0, Value.slice none 0 0, Value.slice none 0 0] 32)) (Obj.cells #[Value.slice none 0 0, Value.slice none 0 0, Value.slice none 0 0] 32)))
  have Xr : Hid ((((w.alloc (Obj.cells #[Value.slice a n c, Value.slice b m d, Value.slice e l f] 26)).alloc (Obj.cells #[Value.slice none 0 0, Value.slice none 0 0, Value.slice none 0 0] 32)).alloc (Obj.cells #[Value.slice none 0 0, Value.slice none 0 0, Value.slice none 0 0] 32)).heap[w.heap.size + 1]? = some (.cells #[Value.slice none 0 0, Value.slice none 0 0, Value.slice none 0 0] 32 (0, 0))) := hide (by simpa only [World.size_alloc] using (hnewer (hnew (w.alloc (Obj.cells #[Value.slice a n c, Value.slice b m d, Value.slice e l f] 26)) (Obj.cells #[Value.slice none 0 0, Value.slice none 0 0, Value.slice none 0 0] 32)) (Obj.cells #[Value.slice none 0 0, Value.slice none 0 0, Value.slice none 0 0] 32)))
  have Xo : Hid ((((w.alloc (Obj.cells #[Value.slice a n c, Value.slice b m d, Value.slice e l f] 26)).alloc (Obj.cells #[Value.slice none 0 0, Value.slice none 0 0, Value.slice none 0 0] 32)).alloc (Obj.cells #[Value.slice none 0 0, Value.slice none 0 0, Value.slice none 0 0] 32)).heap[w.heap.size + 1 + 1]? = some (.cells #[Value.slice none 0 0, Value.slice none 0 0, Value.slice none 0 0] 32 (0, 0))) := hide (by simpa only [World.size_alloc] using (hnew ((w.alloc (Obj.cells #[Value.slice a n c, Value.slice b m d, Value.slice e l f] 26)).alloc (Obj.cells #[Value.slice none 0 0, Value.slice none 0 0, Value.slice none 0 0] 32)) (Obj.cells #[Value.slice none 0 0, Value.slice none 0 0, Value.slice none 0 0] 32)))
  have HB : Hid (Below w.heap.size w (((w.alloc (Obj.cells #[Value.slice a n c, Value.slice b m d, Value.slice e l f] 26)).alloc (Obj.cells #[Value.slice none 0 0, Value.slice none 0 0, Value.slice none 0 0] 32)).alloc (Obj.cells #[Value.slice none 0 0, Value.slice none 0 0, Value.slice none 0 0] 32))) := hide (bl_alloc (bl_alloc (bl_alloc (bl_refl w) (Obj.cells #[Value.slice a n c, Value.slice b m d, Value.slice e l f] 26)) (Obj.cells #[Value.slice none 0 0, Value.slice none 0 0, Value.slice none 0 0] 32)) (Obj.cells #[Value.slice none 0 0, Value.slice none 0 0, Value.slice none 0 0] 32))
  have yw1 : w.heap.size + 3 ≤ (((w.alloc (Obj.cells #[Value.slice a n c, Value.slice b m d, Value.slice e l f] 26)).alloc (Obj.cells #[Value.slice none 0 0, Value.slice none 0 0, Value.slice none 0 0] 32)).alloc (Obj.cells #[Value.slice none 0 0, Value.slice none 0 0, Value.slice none 0 0] 32)).heap.size := by simp only [World.size_alloc]; omega
  have ka0 : (((w.alloc (Obj.cells #[Value.slice a n c, Value.slice b m d, Value.slice e l f] 26)).alloc (Obj.cells #[Value.slice none 0 0, Value.slice none 0 0, Value.slice none 0 0] 32)).alloc (Obj.cells #[Value.slice none 0 0, Value.slice none 0 0, Value.slice none 0 0] 32)).cell? ⟨w.heap.size, 0, none⟩ = some (Value.slice a n c) := (Lib.cell_of_heap Xa.out 0).trans rfl
  have fa0 : (((w.alloc (Obj.cells #[Value.slice a n c, Value.slice b m d, Value.slice e l f] 26)).alloc (Obj.cells #[Value.slice none 0 0, Value.slice none 0 0, Value.slice none 0 0] 32)).alloc (Obj.cells #[Value.slice none 0 0, Value.slice none 0 0, Value.slice none 0 0] 32)).frozen? ⟨w.heap.size, 0, none⟩ = false := Lib.frozen_of_heap Xa.out 0
  have ka1 : (((w.alloc (Obj.cells #[Value.slice a n c, Value.slice b m d, Value.slice e l f] 26)).alloc (Obj.cells #[Value.slice none 0 0, Value.slice none 0 0, Value.slice none 0 0] 32)).alloc (Obj.cells #[Value.slice none 0 0, Value.slice none 0 0, Value.slice none 0 0] 32)).cell? ⟨w.heap.size, 1, none⟩ = some (Value.slice b m d) := (Lib.cell_of_heap Xa.out 1).trans rfl
  have fa1 : (((w.alloc (Obj.cells #[Value.slice a n c, Value.slice b m d, Value.slice e l f] 26)).alloc (Obj.cells #[Value.slice none 0 0, Value.slice none 0 0, Value.slice none 0 0] 32)).alloc (Obj.cells #[Value.slice none 0 0, Value.slice none 0 0, Value.slice none 0 0] 32)).frozen? ⟨w.heap.size, 1, none⟩ = false := Lib.frozen_of_heap Xa.out 1
  have ka2 : (((w.alloc (Obj.cells #[Value.slice a n c, Value.slice b m d, Value.slice e l f] 26)).alloc (Obj.cells #[Value.slice none 0 0, Value.slice none 0 0, Value.slice none 0 0] 32)).alloc (Obj.cells #[Value.slice none 0 0, Value.slice none 0 0, Value.slice none 0 0] 32)).cell? ⟨w.heap.size, 2, none⟩ = some (Value.slice e l f) := (Lib.cell_of_heap Xa.out 2).trans rfl
  have fa2 : (((w.alloc (Obj.cells #[Value.slice a n c, Value.slice b m d, Value.slice e l f] 26)).alloc (Obj.cells #[Value.slice none 0 0, Value.slice none 0 0, Value.slice none 0 0] 32)).alloc (Obj.cells #[Value.slice none 0 0, Value.slice none 0 0, Value.slice none 0 0] 32)).frozen? ⟨w.heap.size, 2, none⟩ = false := Lib.frozen_of_heap Xa.out 2
  have za : w.heap.size < (((w.alloc (Obj.cells #[Value.slice a n c, Value.slice b m d, Value.slice e l f] 26)).alloc (Obj.cells #[Value.slice none 0 0, Value.slice none 0 0, Value.slice none 0 0] 32)).alloc (Obj.cells #[Value.slice none 0 0, Value.slice none 0 0, Value.slice none 0 0] 32)).heap.size := hlt Xa.out
  have kr0 : (((w.alloc (Obj.cells #[Value.slice a n c, Value.slice b m d, Value.slice e l f] 26)).alloc (Obj.cells #[Value.slice none 0 0, Value.slice none 0 0, Value.slice none 0 0] 32)).alloc (Obj.cells #[Value.slice none 0 0, Value.slice none 0 0, Value.slice none 0 0] 32)).cell? ⟨w.heap.size + 1, 0, none⟩ = some (Value.slice none 0 0) := (Lib.cell_of_heap Xr.out 0).trans rfl
  have fr0 : (((w.alloc (Obj.cells #[Value.slice a n c, Value.slice b m d, Value.slice e l f] 26)).alloc (Obj.cells #[Value.slice none 0 0, Value.slice none 0 0, Value.slice none 0 0] 32)).alloc (Obj.cells #[Value.slice none 0 0, Value.slice none 0 0, Value.slice none 0 0] 32)).frozen? ⟨w.heap.size + 1, 0, none⟩ = false := Lib.frozen_of_heap Xr.out 0
  have kr1 : (((w.alloc (Obj.cells #[Value.slice a n c, Value.slice b m d, Value.slice e l f] 26)).alloc (Obj.cells #[Value.slice none 0 0, Value.slice none 0 0, Value.slice none 0 0] 32)).alloc (Obj.cells #[Value.slice none 0 0, Value.slice none 0 0, Value.slice none 0 0] 32)).cell? ⟨w.heap.size + 1, 1, none⟩ = some (Value.slice none 0 0) := (Lib.cell_of_heap Xr.out 1).trans rfl
  have fr1 : (((w.alloc (Obj.cells #[Value.slice a n c, Value.slice b m d, Value.slice e l f] 26)).alloc (Obj.cells #[Value.slice none 0 0, Value.slice none 0 0, Value.slice none 0 0] 32)).alloc (Obj.cells #[Value.slice none 0 0, Value.slice none 0 0, Value.slice none 0 0] 32)).frozen? ⟨w.heap.size + 1, 1, none⟩ = false := Lib.frozen_of_heap Xr.out 1
  have kr2 : (((w.alloc (Obj.cells #[Value.slice a n c, Value.slice b m d, Value.slice e l f] 26)).alloc (Obj.cells #[Value.slice none 0 0, Value.slice none 0 0, Value.slice none 0 0] 32)).alloc (Obj.cells #[Value.slice none 0 0, Value.slice none 0 0, Value.slice none 0 0] 32)).cell? ⟨w.heap.size + 1, 2, none⟩ = some (Value.slice none 0 0) := (Lib.cell_of_heap Xr.out 2).trans rfl
  have fr2 : (((w.alloc (Obj.cells #[Value.slice a n c, Value.slice b m d, Value.slice e l f] 26)).alloc (Obj.cells #[Value.slice none 0 0, Value.slice none 0 0, Value.slice none 0 0] 32)).alloc (Obj.cells #[Value.slice none 0 0, Value.slice none 0 0, Value.slice none 0 0] 32)).frozen? ⟨w.heap.size + 1, 2, none⟩ = false := Lib.frozen_of_heap Xr.out 2
  have zr : w.heap.size + 1 < (((w.alloc (Obj.cells #[Value.slice a n c, Value.slice b m d, Value.slice e l f] 26)).alloc (Obj.cells #[Value.slice none 0 0, Value.slice none 0 0, Value.slice none 0 0] 32)).alloc (Obj.cells #[Value.slice none 0 0, Value.slice none 0 0, Value.slice none 0 0] 32)).heap.size := hlt Xr.out
  have ko0 : (((w.alloc (Obj.cells #[Value.slice a n c, Value.slice b m d, Value.slice e l f] 26)).alloc (Obj.cells #[Value.slice none 0 0, Value.slice none 0 0, Value.slice none 0 0] 32)).alloc (Obj.cells #[Value.slice none 0 0, Value.slice none 0 0, Value.slice none 0 0] 32)).cell? ⟨w.heap.size + 1 + 1, 0, none⟩ = some (Value.slice none 0 0) := (Lib.cell_of_heap Xo.out 0).trans rfl
  have fo0 : (((w.alloc (Obj.cells #[Value.slice a n c, Value.slice b m d, Value.slice e l f] 26)).alloc (Obj.cells #[Value.slice none 0 0, Value.slice none 0 0, Value.slice none 0 0] 32)).alloc (Obj.cells #[Value.slice none 0 0, Value.slice none 0 0, Value.slice none 0 0] 32)).frozen? ⟨w.heap.size + 1 + 1, 0, none⟩ = false := Lib.frozen_of_heap Xo.out 0
  have ko1 : (((w.alloc (Obj.cells #[Value.slice a n c, Value.slice b m d, Value.slice e l f] 26)).alloc (Obj.cells #[Value.slice none 0 0, Value.slice none 0 0, Value.slice none 0 0] 32)).alloc (Obj.cells #[Value.slice none 0 0, Value.slice none 0 0, Value.slice none 0 0] 32)).cell? ⟨w.heap.size + 1 + 1, 1, none⟩ = some (Value.slice none 0 0) := (Lib.cell_of_heap Xo.out 1).trans rfl
  have fo1 : (((w.alloc (Obj.cells #[Value.slice a n c, Value.slice b m d, Value.slice e l f] 26)).alloc (Obj.cells #[Value.slice none 0 0, Value.slice none 0 0, Value.slice none 0 0] 32)).alloc (Obj.cells #[Value.slice none 0 0, Value.slice none 0 0, Value.slice none 0 0] 32)).frozen? ⟨w.heap.size + 1 + 1, 1, none⟩ = false := Lib.frozen_of_heap Xo.out 1
  have ko2 : (((w.alloc (Obj.cells #[Value.slice a n c, Value.slice b m d, Value.slice e l f] 26)).alloc (Obj.cells #[Value.slice none 0 0, Value.slice none 0 0, Value.slice none 0 0] 32)).alloc (Obj.cells #[Value.slice none 0 0, Value.slice none 0 0, Value.slice none 0 0] 32)).cell? ⟨w.heap.size + 1 + 1, 2, none⟩ = some (Value.slice none 0 0) := (Lib.cell_of_heap Xo.out 2).trans rfl
  have fo2 : (((w.alloc (Obj.cells #[Value.slice a n c, Value.slice b m d, Value.slice e l f] 26)).alloc (Obj.cells #[Value.slice none 0 0, Value.slice none 0 0, Value.slice none 0 0] 32)).alloc (Obj.cells #[Value.slice none 0 0, Value.slice none 0 0, Value.slice none 0 0] 32)).frozen? ⟨w.heap.size + 1 + 1, 2, none⟩ = false := Lib.frozen_of_heap Xo.out 2
  have zo : w.heap.size + 1 + 1 < (((w.alloc (Obj.cells #[Value.slice a n c, Value.slice b m d, Value.slice e l f] 26)).alloc (Obj.cells #[Value.slice none 0 0, Value.slice none 0 0, Value.slice none 0 0] 32)).alloc (Obj.cells #[Value.slice none 0 0, Value.slice none 0 0, Value.slice none 0 0] 32)).heap.size := hlt Xo.out
  go_enter Tryz.func7, Tryz.ntmps7
  go_wp2_with fail
  generalize (((w.alloc (Obj.cells #[Value.slice a n c, Value.slice b m d, Value.slice e l f] 26)).alloc (Obj.cells #[Value.slice none 0 0, Value.slice none 0 0, Value.slice none 0 0] 32)).alloc (Obj.cells #[Value.slice none 0 0, Value.slice none 0 0, Value.slice none 0 0] 32)) = w1 at *
  refine (toSS a n c bs _ (HS.out.below HB.out) hn1.1).mono ?_
  rintro e w2 ⟨g1, rfl, ho1, ⟨hg1, _⟩, hb⟩
  have yw2 := hb.size
  clear ka0 fa0 ka1 fa1 ka2 fa2 za
  clear kr0 fr0 kr1 fr1 kr2 fr2 zr
  clear ko0 fo0 ko1 fo1 ko2 fo2 zo
  replace Xa := hide (hbel Xa.out hb (by first | assumption | omega))
  replace Xr := hide (hbel Xr.out hb (by first | assumption | omega))
  replace Xo := hide (hbel Xo.out hb (by first | assumption | omega))
  replace HB := hide (bl_trans HB.out hb)
  clear hb
  have O1 := hide ho1
  clear ho1
  have ka0 : w2.cell? ⟨w.heap.size, 0, none⟩ = some (Value.slice a n c) := (Lib.cell_of_heap Xa.out 0).trans rfl
  have fa0 : w2.frozen? ⟨w.heap.size, 0, none⟩ = false := Lib.frozen_of_heap Xa.out 0
  have ka1 : w2.cell? ⟨w.heap.size, 1, none⟩ = some (Value.slice b m d) := (Lib.cell_of_heap Xa.out 1).trans rfl
  have fa1 : w2.frozen? ⟨w.heap.size, 1, none⟩ = false := Lib.frozen_of_heap Xa.out 1
  have ka2 : w2.cell? ⟨w.heap.size, 2, none⟩ = some (Value.slice e l f) := (Lib.cell_of_heap Xa.out 2).trans rfl
  have fa2 : w2.frozen? ⟨w.heap.size, 2, none⟩ = false := Lib.frozen_of_heap Xa.out 2
  have za : w.heap.size < w2.heap.size := hlt Xa.out
  have kr0 : w2.cell? ⟨w.heap.size + 1, 0, none⟩ = some (Value.slice none 0 0) := (Lib.cell_of_heap Xr.out 0).trans rfl
  have fr0 : w2.frozen? ⟨w.heap.size + 1, 0, none⟩ = false := Lib.frozen_of_heap Xr.out 0
  have kr1 : w2.cell? ⟨w.heap.size + 1, 1, none⟩ = some (Value.slice none 0 0) := (Lib.cell_of_heap Xr.out 1).trans rfl
  have fr1 : w2.frozen? ⟨w.heap.size + 1, 1, none⟩ = false := Lib.frozen_of_heap Xr.out 1
  have kr2 : w2.cell? ⟨w.heap.size + 1, 2, none⟩ = some (Value.slice none 0 0) := (Lib.cell_of_heap Xr.out 2).trans rfl
  have fr2 : w2.frozen? ⟨w.heap.size + 1, 2, none⟩ = false := Lib.frozen_of_heap Xr.out 2
  have zr : w.heap.size + 1 < w2.heap.size := hlt Xr.out
  have ko0 : w2.cell? ⟨w.heap.size + 1 + 1, 0, none⟩ = some (Value.slice none 0 0) := (Lib.cell_of_heap Xo.out 0).trans rfl
  have fo0 : w2.frozen? ⟨w.heap.size + 1 + 1, 0, none⟩ = false := Lib.frozen_of_heap Xo.out 0
  have ko1 : w2.cell? ⟨w.heap.size + 1 + 1, 1, none⟩ = some (Value.slice none 0 0) := (Lib.cell_of_heap Xo.out 1).trans rfl
  have fo1 : w2.frozen? ⟨w.heap.size + 1 + 1, 1, none⟩ = false := Lib.frozen_of_heap Xo.out 1
  have ko2 : w2.cell? ⟨w.heap.size + 1 + 1, 2, none⟩ = some (Value.slice none 0 0) := (Lib.cell_of_heap Xo.out 2).trans rfl
  have fo2 : w2.frozen? ⟨w.heap.size + 1 + 1, 2, none⟩ = false := Lib.frozen_of_heap Xo.out 2
  have zo : w.heap.size + 1 + 1 < w2.heap.size := hlt Xo.out
  go_wp2_with fail
  obtain ⟨w3, ew3⟩ : ∃ x, x = (w2.setCell ⟨w.heap.size + 1 + 1, 0, none⟩ (Value.slice (some ⟨g1, 0, none⟩) n n)) := ⟨_, rfl⟩
  have hst : St (w.heap.size + 1 + 1) w2 w3 := by rw [ew3]; exact ((St.refl (w.heap.size + 1 + 1) w2).set 0 (Value.slice (some ⟨g1, 0, none⟩) n n))
  rw [← ew3]
  have XX : Hid (w3.heap[w.heap.size + 1 + 1]? = some (.cells #[Value.slice (some ⟨g1, 0, none⟩) n n, Value.slice none 0 0, Value.slice none 0 0] 32 (0, 0))) := hide (by rw [ew3]; exact (hset Xo.out 0 (Value.slice (some ⟨g1, 0, none⟩) n n)))
  have yw3 : w2.heap.size ≤ w3.heap.size := Nat.le_of_eq hst.size.symm
  clear ew3
  clear ka0 fa0 ka1 fa1 ka2 fa2 za
  clear kr0 fr0 kr1 fr1 kr2 fr2 zr
  clear ko0 fo0 ko1 fo1 ko2 fo2 zo
  replace Xa := hide (hst.heap Xa.out (by omega))
  replace Xr := hide (hst.heap Xr.out (by omega))
  replace O1 := hide (O1.out.st hst (by omega))
  replace HB := hide (St.below HB.out hst (by omega))
  have Xo := XX
  clear XX hst
  have ka0 : w3.cell? ⟨w.heap.size, 0, none⟩ = some (Value.slice a n c) := (Lib.cell_of_heap Xa.out 0).trans rfl
  have fa0 : w3.frozen? ⟨w.heap.size, 0, none⟩ = false := Lib.frozen_of_heap Xa.out 0
  have ka1 : w3.cell? ⟨w.heap.size, 1, none⟩ = some (Value.slice b m d) := (Lib.cell_of_heap Xa.out 1).trans rfl
  have fa1 : w3.frozen? ⟨w.heap.size, 1, none⟩ = false := Lib.frozen_of_heap Xa.out 1
  have ka2 : w3.cell? ⟨w.heap.size, 2, none⟩ = some (Value.slice e l f) := (Lib.cell_of_heap Xa.out 2).trans rfl
  have fa2 : w3.frozen? ⟨w.heap.size, 2, none⟩ = false := Lib.frozen_of_heap Xa.out 2
  have za : w.heap.size < w3.heap.size := hlt Xa.out
  have kr0 : w3.cell? ⟨w.heap.size + 1, 0, none⟩ = some (Value.slice none 0 0) := (Lib.cell_of_heap Xr.out 0).trans rfl
  have fr0 : w3.frozen? ⟨w.heap.size + 1, 0, none⟩ = false := Lib.frozen_of_heap Xr.out 0
  have kr1 : w3.cell? ⟨w.heap.size + 1, 1, none⟩ = some (Value.slice none 0 0) := (Lib.cell_of_heap Xr.out 1).trans rfl
  have fr1 : w3.frozen? ⟨w.heap.size + 1, 1, none⟩ = false := Lib.frozen_of_heap Xr.out 1
  have kr2 : w3.cell? ⟨w.heap.size + 1, 2, none⟩ = some (Value.slice none 0 0) := (Lib.cell_of_heap Xr.out 2).trans rfl
  have fr2 : w3.frozen? ⟨w.heap.size + 1, 2, none⟩ = false := Lib.frozen_of_heap Xr.out 2
  have zr : w.heap.size + 1 < w3.heap.size := hlt Xr.out
  have ko0 : w3.cell? ⟨w.heap.size + 1 + 1, 0, none⟩ = some (Value.slice (some ⟨g1, 0, none⟩) n n) := (Lib.cell_of_heap Xo.out 0).trans rfl
  have fo0 : w3.frozen? ⟨w.heap.size + 1 + 1, 0, none⟩ = false := Lib.frozen_of_heap Xo.out 0
  have ko1 : w3.cell? ⟨w.heap.size + 1 + 1, 1, none⟩ = some (Value.slice none 0 0) := (Lib.cell_of_heap Xo.out 1).trans rfl
  have fo1 : w3.frozen? ⟨w.heap.size + 1 + 1, 1, none⟩ = false := Lib.frozen_of_heap Xo.out 1
  have ko2 : w3.cell? ⟨w.heap.size + 1 + 1, 2, none⟩ = some (Value.slice none 0 0) := (Lib.cell_of_heap Xo.out 2).trans rfl
  have fo2 : w3.frozen? ⟨w.heap.size + 1 + 1, 2, none⟩ = false := Lib.frozen_of_heap Xo.out 2
  have zo : w.heap.size + 1 + 1 < w3.heap.size := hlt Xo.out
  refine (toPfS b m d X ps _ (HP.out.below HB.out) hsp hn1.2.1 hn1.2.2.2.1).mono ?_
  rintro e w4 ⟨g2, rfl, hm2, hb⟩
  have yw4 := hb.size
  clear ka0 fa0 ka1 fa1 ka2 fa2 za
  clear kr0 fr0 kr1 fr1 kr2 fr2 zr
  clear ko0 fo0 ko1 fo1 ko2 fo2 zo
  replace Xa := hide (hbel Xa.out hb (by first | assumption | omega))
  replace Xr := hide (hbel Xr.out hb (by first | assumption | omega))
  replace Xo := hide (hbel Xo.out hb (by first | assumption | omega))
  replace O1 := hide (O1.out.below hb)
  replace HB := hide (bl_trans HB.out hb)
  clear hb
  have ka0 : w4.cell? ⟨w.heap.size, 0, none⟩ = some (Value.slice a n c) := (Lib.cell_of_heap Xa.out 0).trans rfl
  have fa0 : w4.frozen? ⟨w.heap.size, 0, none⟩ = false := Lib.frozen_of_heap Xa.out 0
  have ka1 : w4.cell? ⟨w.heap.size, 1, none⟩ = some (Value.slice b m d) := (Lib.cell_of_heap Xa.out 1).trans rfl
  have fa1 : w4.frozen? ⟨w.heap.size, 1, none⟩ = false := Lib.frozen_of_heap Xa.out 1
  have ka2 : w4.cell? ⟨w.heap.size, 2, none⟩ = some (Value.slice e l f) := (Lib.cell_of_heap Xa.out 2).trans rfl
  have fa2 : w4.frozen? ⟨w.heap.size, 2, none⟩ = false := Lib.frozen_of_heap Xa.out 2
  have za : w.heap.size < w4.heap.size := hlt Xa.out
  have kr0 : w4.cell? ⟨w.heap.size + 1, 0, none⟩ = some (Value.slice none 0 0) := (Lib.cell_of_heap Xr.out 0).trans rfl
  have fr0 : w4.frozen? ⟨w.heap.size + 1, 0, none⟩ = false := Lib.frozen_of_heap Xr.out 0
  have kr1 : w4.cell? ⟨w.heap.size + 1, 1, none⟩ = some (Value.slice none 0 0) := (Lib.cell_of_heap Xr.out 1).trans rfl
  have fr1 : w4.frozen? ⟨w.heap.size + 1, 1, none⟩ = false := Lib.frozen_of_heap Xr.out 1
  have kr2 : w4.cell? ⟨w.heap.size + 1, 2, none⟩ = some (Value.slice none 0 0) := (Lib.cell_of_heap Xr.out 2).trans rfl
  have fr2 : w4.frozen? ⟨w.heap.size + 1, 2, none⟩ = false := Lib.frozen_of_heap Xr.out 2
  have zr : w.heap.size + 1 < w4.heap.size := hlt Xr.out
  have ko0 : w4.cell? ⟨w.heap.size + 1 + 1, 0, none⟩ = some (Value.slice (some ⟨g1, 0, none⟩) n n) := (Lib.cell_of_heap Xo.out 0).trans rfl
  have fo0 : w4.frozen? ⟨w.heap.size + 1 + 1, 0, none⟩ = false := Lib.frozen_of_heap Xo.out 0
  have ko1 : w4.cell? ⟨w.heap.size + 1 + 1, 1, none⟩ = some (Value.slice none 0 0) := (Lib.cell_of_heap Xo.out 1).trans rfl
  have fo1 : w4.frozen? ⟨w.heap.size + 1 + 1, 1, none⟩ = false := Lib.frozen_of_heap Xo.out 1
  have ko2 : w4.cell? ⟨w.heap.size + 1 + 1, 2, none⟩ = some (Value.slice none 0 0) := (Lib.cell_of_heap Xo.out 2).trans rfl
  have fo2 : w4.frozen? ⟨w.heap.size + 1 + 1, 2, none⟩ = false := Lib.frozen_of_heap Xo.out 2
  have zo : w.heap.size + 1 + 1 < w4.heap.size := hlt Xo.out
  have hg2 := hm2.1
  have hs2 := hm2.seg e2 (by omega) W2.out
  clear hm2
  have O2 := hide hs2
  clear hs2
  go_wp2_with fail
  obtain ⟨w5, ew5⟩ : ∃ x, x = (w4.setCell ⟨w.heap.size + 1 + 1, 1, none⟩ (Value.slice (some ⟨g2, 0, none⟩) m m)) := ⟨_, rfl⟩
  have hst : St (w.heap.size + 1 + 1) w4 w5 := by rw [ew5]; exact ((St.refl (w.heap.size + 1 + 1) w4).set 1 (Value.slice (some ⟨g2, 0, none⟩) m m))
  rw [← ew5]
  have XX : Hid (w5.heap[w.heap.size + 1 + 1]? = some (.cells #[Value.slice (some ⟨g1, 0, none⟩) n n, Value.slice (some ⟨g2, 0, none⟩) m m, Value.slice none 0 0] 32 (0, 0))) := hide (by rw [ew5]; exact (hset Xo.out 1 (Value.slice (some ⟨g2, 0, none⟩) m m)))
  have yw5 : w4.heap.size ≤ w5.heap.size := Nat.le_of_eq hst.size.symm
  clear ew5
  clear ka0 fa0 ka1 fa1 ka2 fa2 za
  clear kr0 fr0 kr1 fr1 kr2 fr2 zr
  clear ko0 fo0 ko1 fo1 ko2 fo2 zo
  replace Xa := hide (hst.heap Xa.out (by omega))
  replace Xr := hide (hst.heap Xr.out (by omega))
  replace O1 := hide (O1.out.st hst (by omega))
  replace O2 := hide (O2.out.st hst (by omega) (fun k hk => by omega))
  replace HB := hide (St.below HB.out hst (by omega))
  have Xo := XX
  clear XX hst
  have ka0 : w5.cell? ⟨w.heap.size, 0, none⟩ = some (Value.slice a n c) := (Lib.cell_of_heap Xa.out 0).trans rfl
  have fa0 : w5.frozen? ⟨w.heap.size, 0, none⟩ = false := Lib.frozen_of_heap Xa.out 0
  have ka1 : w5.cell? ⟨w.heap.size, 1, none⟩ = some (Value.slice b m d) := (Lib.cell_of_heap Xa.out 1).trans rfl
  have fa1 : w5.frozen? ⟨w.heap.size, 1, none⟩ = false := Lib.frozen_of_heap Xa.out 1
  have ka2 : w5.cell? ⟨w.heap.size, 2, none⟩ = some (Value.slice e l f) := (Lib.cell_of_heap Xa.out 2).trans rfl
  have fa2 : w5.frozen? ⟨w.heap.size, 2, none⟩ = false := Lib.frozen_of_heap Xa.out 2
  have za : w.heap.size < w5.heap.size := hlt Xa.out
  have kr0 : w5.cell? ⟨w.heap.size + 1, 0, none⟩ = some (Value.slice none 0 0) := (Lib.cell_of_heap Xr.out 0).trans rfl
  have fr0 : w5.frozen? ⟨w.heap.size + 1, 0, none⟩ = false := Lib.frozen_of_heap Xr.out 0
  have kr1 : w5.cell? ⟨w.heap.size + 1, 1, none⟩ = some (Value.slice none 0 0) := (Lib.cell_of_heap Xr.out 1).trans rfl
  have fr1 : w5.frozen? ⟨w.heap.size + 1, 1, none⟩ = false := Lib.frozen_of_heap Xr.out 1
  have kr2 : w5.cell? ⟨w.heap.size + 1, 2, none⟩ = some (Value.slice none 0 0) := (Lib.cell_of_heap Xr.out 2).trans rfl
  have fr2 : w5.frozen? ⟨w.heap.size + 1, 2, none⟩ = false := Lib.frozen_of_heap Xr.out 2
  have zr : w.heap.size + 1 < w5.heap.size := hlt Xr.out
  have ko0 : w5.cell? ⟨w.heap.size + 1 + 1, 0, none⟩ = some (Value.slice (some ⟨g1, 0, none⟩) n n) := (Lib.cell_of_heap Xo.out 0).trans rfl
  have fo0 : w5.frozen? ⟨w.heap.size + 1 + 1, 0, none⟩ = false := Lib.frozen_of_heap Xo.out 0
  have ko1 : w5.cell? ⟨w.heap.size + 1 + 1, 1, none⟩ = some (Value.slice (some ⟨g2, 0, none⟩) m m) := (Lib.cell_of_heap Xo.out 1).trans rfl
  have fo1 : w5.frozen? ⟨w.heap.size + 1 + 1, 1, none⟩ = false := Lib.frozen_of_heap Xo.out 1
  have ko2 : w5.cell? ⟨w.heap.size + 1 + 1, 2, none⟩ = some (Value.slice none 0 0) := (Lib.cell_of_heap Xo.out 2).trans rfl
  have fo2 : w5.frozen? ⟨w.heap.size + 1 + 1, 2, none⟩ = false := Lib.frozen_of_heap Xo.out 2
  have zo : w.heap.size + 1 + 1 < w5.heap.size := hlt Xo.out
  refine (toUnS e l f Y us _ (HU.out.below HB.out) hsu hn1.2.2.1 hn1.2.2.2.2).mono ?_
  rintro e w6 ⟨g3, rfl, hm3, hb⟩
  have yw6 := hb.size
  clear ka0 fa0 ka1 fa1 ka2 fa2 za
  clear kr0 fr0 kr1 fr1 kr2 fr2 zr
  clear ko0 fo0 ko1 fo1 ko2 fo2 zo
  replace Xa := hide (hbel Xa.out hb (by first | assumption | omega))
  replace Xr := hide (hbel Xr.out hb (by first | assumption | omega))
  replace Xo := hide (hbel Xo.out hb (by first | assumption | omega))
  replace O1 := hide (O1.out.below hb)
  replace O2 := hide (O2.out.below hb)
  replace HB := hide (bl_trans HB.out hb)
  clear hb
  have ka0 : w6.cell? ⟨w.heap.size, 0, none⟩ = some (Value.slice a n c) := (Lib.cell_of_heap Xa.out 0).trans rfl
  have fa0 : w6.frozen? ⟨w.heap.size, 0, none⟩ = false := Lib.frozen_of_heap Xa.out 0
  have ka1 : w6.cell? ⟨w.heap.size, 1, none⟩ = some (Value.slice b m d) := (Lib.cell_of_heap Xa.out 1).trans rfl
  have fa1 : w6.frozen? ⟨w.heap.size, 1, none⟩ = false := Lib.frozen_of_heap Xa.out 1
  have ka2 : w6.cell? ⟨w.heap.size, 2, none⟩ = some (Value.slice e l f) := (Lib.cell_of_heap Xa.out 2).trans rfl
  have fa2 : w6.frozen? ⟨w.heap.size, 2, none⟩ = false := Lib.frozen_of_heap Xa.out 2
  have za : w.heap.size < w6.heap.size := hlt Xa.out
  have kr0 : w6.cell? ⟨w.heap.size + 1, 0, none⟩ = some (Value.slice none 0 0) := (Lib.cell_of_heap Xr.out 0).trans rfl
  have fr0 : w6.frozen? ⟨w.heap.size + 1, 0, none⟩ = false := Lib.frozen_of_heap Xr.out 0
  have kr1 : w6.cell? ⟨w.heap.size + 1, 1, none⟩ = some (Value.slice none 0 0) := (Lib.cell_of_heap Xr.out 1).trans rfl
  have fr1 : w6.frozen? ⟨w.heap.size + 1, 1, none⟩ = false := Lib.frozen_of_heap Xr.out 1
  have kr2 : w6.cell? ⟨w.heap.size + 1, 2, none⟩ = some (Value.slice none 0 0) := (Lib.cell_of_heap Xr.out 2).trans rfl
  have fr2 : w6.frozen? ⟨w.heap.size + 1, 2, none⟩ = false := Lib.frozen_of_heap Xr.out 2
  have zr : w.heap.size + 1 < w6.heap.size := hlt Xr.out
  have ko0 : w6.cell? ⟨w.heap.size + 1 + 1, 0, none⟩ = some (Value.slice (some ⟨g1, 0, none⟩) n n) := (Lib.cell_of_heap Xo.out 0).trans rfl
  have fo0 : w6.frozen? ⟨w.heap.size + 1 + 1, 0, none⟩ = false := Lib.frozen_of_heap Xo.out 0
  have ko1 : w6.cell? ⟨w.heap.size + 1 + 1, 1, none⟩ = some (Value.slice (some ⟨g2, 0, none⟩) m m) := (Lib.cell_of_heap Xo.out 1).trans rfl
  have fo1 : w6.frozen? ⟨w.heap.size + 1 + 1, 1, none⟩ = false := Lib.frozen_of_heap Xo.out 1
  have ko2 : w6.cell? ⟨w.heap.size + 1 + 1, 2, none⟩ = some (Value.slice none 0 0) := (Lib.cell_of_heap Xo.out 2).trans rfl
  have fo2 : w6.frozen? ⟨w.heap.size + 1 + 1, 2, none⟩ = false := Lib.frozen_of_heap Xo.out 2
  have zo : w.heap.size + 1 + 1 < w6.heap.size := hlt Xo.out
  have hg3 := hm3.1
  have hs3 := hm3.seg e3 (by omega) W3.out
  clear hm3
  have O3 := hide hs3
  clear hs3
  go_wp2
  obtain ⟨w7, ew7⟩ : ∃ x, x = (w6.setCell ⟨w.heap.size + 1 + 1, 2, none⟩ (Value.slice (some ⟨g3, 0, none⟩) l l)) := ⟨_, rfl⟩
  have hst : St (w.heap.size + 1 + 1) w6 w7 := by rw [ew7]; exact ((St.refl (w.heap.size + 1 + 1) w6).set 2 (Value.slice (some ⟨g3, 0, none⟩) l l))
  rw [← ew7]
  have XX : Hid (w7.heap[w.heap.size + 1 + 1]? = some (.cells #[Value.slice (some ⟨g1, 0, none⟩) n n, Value.slice (some ⟨g2, 0, none⟩) m m, Value.slice (some ⟨g3, 0, none⟩) l l] 32 (0, 0))) := hide (by rw [ew7]; exact (hset Xo.out 2 (Value.slice (some ⟨g3, 0, none⟩) l l)))
  have yw7 : w6.heap.size ≤ w7.heap.size := Nat.le_of_eq hst.size.symm
  clear ew7
  clear ka0 fa0 ka1 fa1 ka2 fa2 za
  clear kr0 fr0 kr1 fr1 kr2 fr2 zr
  clear ko0 fo0 ko1 fo1 ko2 fo2 zo
  replace Xa := hide (hst.heap Xa.out (by omega))
  replace Xr := hide (hst.heap Xr.out (by omega))
  replace O1 := hide (O1.out.st hst (by omega))
  replace O2 := hide (O2.out.st hst (by omega) (fun k hk => by omega))
  replace O3 := hide (O3.out.st hst (by omega) (fun k hk => by omega))
  replace HB := hide (St.below HB.out hst (by omega))
  have Xo := XX
  clear XX hst
  have ka0 : w7.cell? ⟨w.heap.size, 0, none⟩ = some (Value.slice a n c) := (Lib.cell_of_heap Xa.out 0).trans rfl
  have fa0 : w7.frozen? ⟨w.heap.size, 0, none⟩ = false := Lib.frozen_of_heap Xa.out 0
  have ka1 : w7.cell? ⟨w.heap.size, 1, none⟩ = some (Value.slice b m d) := (Lib.cell_of_heap Xa.out 1).trans rfl
  have fa1 : w7.frozen? ⟨w.heap.size, 1, none⟩ = false := Lib.frozen_of_heap Xa.out 1
  have ka2 : w7.cell? ⟨w.heap.size, 2, none⟩ = some (Value.slice e l f) := (Lib.cell_of_heap Xa.out 2).trans rfl
  have fa2 : w7.frozen? ⟨w.heap.size, 2, none⟩ = false := Lib.frozen_of_heap Xa.out 2
  have za : w.heap.size < w7.heap.size := hlt Xa.out
  have kr0 : w7.cell? ⟨w.heap.size + 1, 0, none⟩ = some (Value.slice none 0 0) := (Lib.cell_of_heap Xr.out 0).trans rfl
  have fr0 : w7.frozen? ⟨w.heap.size + 1, 0, none⟩ = false := Lib.frozen_of_heap Xr.out 0
  have kr1 : w7.cell? ⟨w.heap.size + 1, 1, none⟩ = some (Value.slice none 0 0) := (Lib.cell_of_heap Xr.out 1).trans rfl
  have fr1 : w7.frozen? ⟨w.heap.size + 1, 1, none⟩ = false := Lib.frozen_of_heap Xr.out 1
  have kr2 : w7.cell? ⟨w.heap.size + 1, 2, none⟩ = some (Value.slice none 0 0) := (Lib.cell_of_heap Xr.out 2).trans rfl
  have fr2 : w7.frozen? ⟨w.heap.size + 1, 2, none⟩ = false := Lib.frozen_of_heap Xr.out 2
  have zr : w.heap.size + 1 < w7.heap.size := hlt Xr.out
  have ko0 : w7.cell? ⟨w.heap.size + 1 + 1, 0, none⟩ = some (Value.slice (some ⟨g1, 0, none⟩) n n) := (Lib.cell_of_heap Xo.out 0).trans rfl
  have fo0 : w7.frozen? ⟨w.heap.size + 1 + 1, 0, none⟩ = false := Lib.frozen_of_heap Xo.out 0
  have ko1 : w7.cell? ⟨w.heap.size + 1 + 1, 1, none⟩ = some (Value.slice (some ⟨g2, 0, none⟩) m m) := (Lib.cell_of_heap Xo.out 1).trans rfl
  have fo1 : w7.frozen? ⟨w.heap.size + 1 + 1, 1, none⟩ = false := Lib.frozen_of_heap Xo.out 1
  have ko2 : w7.cell? ⟨w.heap.size + 1 + 1, 2, none⟩ = some (Value.slice (some ⟨g3, 0, none⟩) l l) := (Lib.cell_of_heap Xo.out 2).trans rfl
  have fo2 : w7.frozen? ⟨w.heap.size + 1 + 1, 2, none⟩ = false := Lib.frozen_of_heap Xo.out 2
  have zo : w.heap.size + 1 + 1 < w7.heap.size := hlt Xo.out
  obtain ⟨w8, ew8⟩ : ∃ x, x = (((w7.setCell ⟨w.heap.size + 1, 0, none⟩ (Value.slice (some ⟨g1, 0, none⟩) n n)).setCell ⟨w.heap.size + 1, 1, none⟩ (Value.slice (some ⟨g2, 0, none⟩) m m)).setCell ⟨w.heap.size + 1, 2, none⟩ (Value.slice (some ⟨g3, 0, none⟩) l l)) := ⟨_, rfl⟩
  have hst : St (w.heap.size + 1) w7 w8 := by rw [ew8]; exact ((((St.refl (w.heap.size + 1) w7).set 0 (Value.slice (some ⟨g1, 0, none⟩) n n)).set 1 (Value.slice (some ⟨g2, 0, none⟩) m m)).set 2 (Value.slice (some ⟨g3, 0, none⟩) l l))
  rw [← ew8]
  have XX : Hid (w8.heap[w.heap.size + 1]? = some (.cells #[Value.slice (some ⟨g1, 0, none⟩) n n, Value.slice (some ⟨g2, 0, none⟩) m m, Value.slice (some ⟨g3, 0, none⟩) l l] 32 (0, 0))) := hide (by rw [ew8]; exact (hset (hset (hset Xr.out 0 (Value.slice (some ⟨g1, 0, none⟩) n n)) 1 (Value.slice (some ⟨g2, 0, none⟩) m m)) 2 (Value.slice (some ⟨g3, 0, none⟩) l l)))
  have yw8 : w7.heap.size ≤ w8.heap.size := Nat.le_of_eq hst.size.symm
  clear ew8
  clear ka0 fa0 ka1 fa1 ka2 fa2 za
  clear kr0 fr0 kr1 fr1 kr2 fr2 zr
  clear ko0 fo0 ko1 fo1 ko2 fo2 zo
  replace Xa := hide (hst.heap Xa.out (by omega))
  replace Xo := hide (hst.heap Xo.out (by omega))
  replace O1 := hide (O1.out.st hst (by omega))
  replace O2 := hide (O2.out.st hst (by omega) (fun k hk => by omega))
  replace O3 := hide (O3.out.st hst (by omega) (fun k hk => by omega))
  replace HB := hide (St.below HB.out hst (by omega))
  have Xr := XX
  clear XX hst
  have ka0 : w8.cell? ⟨w.heap.size, 0, none⟩ = some (Value.slice a n c) := (Lib.cell_of_heap Xa.out 0).trans rfl
  have fa0 : w8.frozen? ⟨w.heap.size, 0, none⟩ = false := Lib.frozen_of_heap Xa.out 0
  have ka1 : w8.cell? ⟨w.heap.size, 1, none⟩ = some (Value.slice b m d) := (Lib.cell_of_heap Xa.out 1).trans rfl
  have fa1 : w8.frozen? ⟨w.heap.size, 1, none⟩ = false := Lib.frozen_of_heap Xa.out 1
  have ka2 : w8.cell? ⟨w.heap.size, 2, none⟩ = some (Value.slice e l f) := (Lib.cell_of_heap Xa.out 2).trans rfl
  have fa2 : w8.frozen? ⟨w.heap.size, 2, none⟩ = false := Lib.frozen_of_heap Xa.out 2
  have za : w.heap.size < w8.heap.size := hlt Xa.out
  have kr0 : w8.cell? ⟨w.heap.size + 1, 0, none⟩ = some (Value.slice (some ⟨g1, 0, none⟩) n n) := (Lib.cell_of_heap Xr.out 0).trans rfl
  have fr0 : w8.frozen? ⟨w.heap.size + 1, 0, none⟩ = false := Lib.frozen_of_heap Xr.out 0
  have kr1 : w8.cell? ⟨w.heap.size + 1, 1, none⟩ = some (Value.slice (some ⟨g2, 0, none⟩) m m) := (Lib.cell_of_heap Xr.out 1).trans rfl
  have fr1 : w8.frozen? ⟨w.heap.size + 1, 1, none⟩ = false := Lib.frozen_of_heap Xr.out 1
  have kr2 : w8.cell? ⟨w.heap.size + 1, 2, none⟩ = some (Value.slice (some ⟨g3, 0, none⟩) l l) := (Lib.cell_of_heap Xr.out 2).trans rfl
  have fr2 : w8.frozen? ⟨w.heap.size + 1, 2, none⟩ = false := Lib.frozen_of_heap Xr.out 2
  have zr : w.heap.size + 1 < w8.heap.size := hlt Xr.out
  have ko0 : w8.cell? ⟨w.heap.size + 1 + 1, 0, none⟩ = some (Value.slice (some ⟨g1, 0, none⟩) n n) := (Lib.cell_of_heap Xo.out 0).trans rfl
  have fo0 : w8.frozen? ⟨w.heap.size + 1 + 1, 0, none⟩ = false := Lib.frozen_of_heap Xo.out 0
  have ko1 : w8.cell? ⟨w.heap.size + 1 + 1, 1, none⟩ = some (Value.slice (some ⟨g2, 0, none⟩) m m) := (Lib.cell_of_heap Xo.out 1).trans rfl
  have fo1 : w8.frozen? ⟨w.heap.size + 1 + 1, 1, none⟩ = false := Lib.frozen_of_heap Xo.out 1
  have ko2 : w8.cell? ⟨w.heap.size + 1 + 1, 2, none⟩ = some (Value.slice (some ⟨g3, 0, none⟩) l l) := (Lib.cell_of_heap Xo.out 2).trans rfl
  have fo2 : w8.frozen? ⟨w.heap.size + 1 + 1, 2, none⟩ = false := Lib.frozen_of_heap Xo.out 2
  have zo : w.heap.size + 1 + 1 < w8.heap.size := hlt Xo.out
  refine bodyPost_ret (v := Value.agg #[Value.slice (some ⟨g1, 0, none⟩) n n, Value.slice (some ⟨g2, 0, none⟩) m m, Value.slice (some ⟨g3, 0, none⟩) l l]) (by simp [results, Tryz.results7, go_sem, kr0, kr1, kr2]) rfl ?_
  exact ⟨g1, g2, g3, rfl, O1.out, O2.out, O3.out, HB.out⟩

set_option maxHeartbeats 4000000 in
set_option maxRecDepth 20000 in
theorem eqBk (a : Option Addr) (n c : Nat) (b : Option Addr) (m d : Nat) (e : Option Addr) (l f : Nat) (a' : Option Addr) (c' : Nat) (b' : Option Addr) (d' : Nat) (e' : Option Addr) (f' : Nat) (bs : List ByteArray) (ps us : List (List Lf)) (X Y X' Y' : Nat → Prop) (w : World) (hs : SSeg w a n c bs) (hp : RSeg w X 5 b m d ps) (hsp : ∀ r ∈ ps, ShPf r) (hu : RSeg w Y 7 e l f us) (hsu : ∀ r ∈ us, ShUn r) (hs' : SSeg w a' n c' bs) (hp' : RSeg w X' 5 b' m d' ps) (hu' : RSeg w Y' 7 e' l f' us) :
    Calls Tryz.prog 9 #[Value.agg #[Value.slice a n c, Value.slice b m d, Value.slice e l f], Value.agg #[Value.slice a' n c', Value.slice b' m d', Value.slice e' l f']] w fun e w' => e = .returned (.bool true) ∧ Below w.heap.size w w' := by
  have HS := hide hs
  have HP := hide hp
  have HU := hide hu
  have HS' := hide hs'
  have HP' := hide hp'
  have HU' := hide hu'
  clear hs hp hu hs' hp' hu'
  have Xa : Hid (((w.alloc (Obj.cells #[Value.slice a n c, Value.slice b m d, Value.slice e l f] 32)).alloc (Obj.cells #[Value.slice a' n c', Value.slice b' m d', Value.slice e' l f'] 32)).heap[w.heap.size]? = some (.cells #[Value.slice a n c, Value.slice b m d, Value.slice e l f] 32 (0, 0))) := hide (by simpa only [World.size_alloc] using (hnewer (hnew w (Obj.cells #[Value.slice a n c, Value.slice b m d, Value.slice e l f] 32)) (Obj.cells #[Value.slice a' n c', Value.slice b' m d', Value.slice e' l f'] 32)))
  have Xb : Hid (((w.alloc (Obj.cells #[Value.slice a n c, Value.slice b m d, Value.slice e l f] 32)).alloc (Obj.cells #[Value.slice a' n c', Value.slice b' m d', Value.slice e' l f'] 32)).heap[w.heap.size + 1]? = some (.cells #[Value.slice a' n c', Value.slice b' m d', Value.slice e' l f'] 32 (0, 0))) := hide (by simpa only [World.size_alloc] using (hnew (w.alloc (Obj.cells #[Value.slice a n c, Value.slice b m d, Value.slice e l f] 32)) (Obj.cells #[Value.slice a' n c', Value.slice b' m d', Value.slice e' l f'] 32)))
  have HB : Hid (Below w.heap.size w ((w.alloc (Obj.cells #[Value.slice a n c, Value.slice b m d, Value.slice e l f] 32)).alloc (Obj.cells #[Value.slice a' n c', Value.slice b' m d', Value.slice e' l f'] 32))) := hide (bl_alloc (bl_alloc (bl_refl w) (Obj.cells #[Value.slice a n c, Value.slice b m d, Value.slice e l f] 32)) (Obj.cells #[Value.slice a' n c', Value.slice b' m d', Value.slice e' l f'] 32))
  have yw1 : w.heap.size + 2 ≤ ((w.alloc (Obj.cells #[Value.slice a n c, Value.slice b m d, Value.slice e l f] 32)).alloc (Obj.cells #[Value.slice a' n c', Value.slice b' m d', Value.slice e' l f'] 32)).heap.size := by simp only [World.size_alloc]; omega
  have ka0 : ((w.alloc (Obj.cells #[Value.slice a n c, Value.slice b m d, Value.slice e l f] 32)).alloc (Obj.cells #[Value.slice a' n c', Value.slice b' m d', Value.slice e' l f'] 32)).cell? ⟨w.heap.size, 0, none⟩ = some (Value.slice a n c) := (Lib.cell_of_heap Xa.out 0).trans rfl
  have fa0 : ((w.alloc (Obj.cells #[Value.slice a n c, Value.slice b m d, Value.slice e l f] 32)).alloc (Obj.cells #[Value.slice a' n c', Value.slice b' m d', Value.slice e' l f'] 32)).frozen? ⟨w.heap.size, 0, none⟩ = false := Lib.frozen_of_heap Xa.out 0
  have ka1 : ((w.alloc (Obj.cells #[Value.slice a n c, Value.slice b m d, Value.slice e l f] 32)).alloc (Obj.cells #[Value.slice a' n c', Value.slice b' m d', Value.slice e' l f'] 32)).cell? ⟨w.heap.size, 1, none⟩ = some (Value.slice b m d) := (Lib.cell_of_heap Xa.out 1).trans rfl
  have fa1 : ((w.alloc (Obj.cells #[Value.slice a n c, Value.slice b m d, Value.slice e l f] 32)).alloc (Obj.cells #[Value.slice a' n c', Value.slice b' m d', Value.slice e' l f'] 32)).frozen? ⟨w.heap.size, 1, none⟩ = false := Lib.frozen_of_heap Xa.out 1
  have ka2 : ((w.alloc (Obj.cells #[Value.slice a n c, Value.slice b m d, Value.slice e l f] 32)).alloc (Obj.cells #[Value.slice a' n c', Value.slice b' m d', Value.slice e' l f'] 32)).cell? ⟨w.heap.size, 2, none⟩ = some (Value.slice e l f) := (Lib.cell_of_heap Xa.out 2).trans rfl
  have fa2 : ((w.alloc (Obj.cells #[Value.slice a n c, Value.slice b m d, Value.slice e l f] 32)).alloc (Obj.cells #[Value.slice a' n c', Value.slice b' m d', Value.slice e' l f'] 32)).frozen? ⟨w.heap.size, 2, none⟩ = false := Lib.frozen_of_heap Xa.out 2
  have za : w.heap.size < ((w.alloc (Obj.cells #[Value.slice a n c, Value.slice b m d, Value.slice e l f] 32)).alloc (Obj.cells #[Value.slice a' n c', Value.slice b' m d', Value.slice e' l f'] 32)).heap.size := hlt Xa.out
  have kb0 : ((w.alloc (Obj.cells #[Value.slice a n c, Value.slice b m d, Value.slice e l f] 32)).alloc (Obj.cells #[Value.slice a' n c', Value.slice b' m d', Value.slice e' l f'] 32)).cell? ⟨w.heap.size + 1, 0, none⟩ = some (Value.slice a' n c') := (Lib.cell_of_heap Xb.out 0).trans rfl
  have fb0 : ((w.alloc (Obj.cells #[Value.slice a n c, Value.slice b m d, Value.slice e l f] 32)).alloc (Obj.cells #[Value.slice a' n c', Value.slice b' m d', Value.slice e' l f'] 32)).frozen? ⟨w.heap.size + 1, 0, none⟩ = false := Lib.frozen_of_heap Xb.out 0
  have kb1 : ((w.alloc (Obj.cells #[Value.slice a n c, Value.slice b m d, Value.slice e l f] 32)).alloc (Obj.cells #[Value.slice a' n c', Value.slice b' m d', Value.slice e' l f'] 32)).cell? ⟨w.heap.size + 1, 1, none⟩ = some (Value.slice b' m d') := (Lib.cell_of_heap Xb.out 1).trans rfl
  have fb1 : ((w.alloc (Obj.cells #[Value.slice a n c, Value.slice b m d, Value.slice e l f] 32)).alloc (Obj.cells #[Value.slice a' n c', Value.slice b' m d', Value.slice e' l f'] 32)).frozen? ⟨w.heap.size + 1, 1, none⟩ = false := Lib.frozen_of_heap Xb.out 1
  have kb2 : ((w.alloc (Obj.cells #[Value.slice a n c, Value.slice b m d, Value.slice e l f] 32)).alloc (Obj.cells #[Value.slice a' n c', Value.slice b' m d', Value.slice e' l f'] 32)).cell? ⟨w.heap.size + 1, 2, none⟩ = some (Value.slice e' l f') := (Lib.cell_of_heap Xb.out 2).trans rfl
  have fb2 : ((w.alloc (Obj.cells #[Value.slice a n c, Value.slice b m d, Value.slice e l f] 32)).alloc (Obj.cells #[Value.slice a' n c', Value.slice b' m d', Value.slice e' l f'] 32)).frozen? ⟨w.heap.size + 1, 2, none⟩ = false := Lib.frozen_of_heap Xb.out 2
  have zb : w.heap.size + 1 < ((w.alloc (Obj.cells #[Value.slice a n c, Value.slice b m d, Value.slice e l f] 32)).alloc (Obj.cells #[Value.slice a' n c', Value.slice b' m d', Value.slice e' l f'] 32)).heap.size := hlt Xb.out
  go_enter Tryz.func9, Tryz.ntmps9
  go_wp2_with fail
  generalize ((w.alloc (Obj.cells #[Value.slice a n c, Value.slice b m d, Value.slice e l f] 32)).alloc (Obj.cells #[Value.slice a' n c', Value.slice b' m d', Value.slice e' l f'] 32)) = w1 at *
  refine (eqSS a a' n c c' bs _ (HS.out.below HB.out) (HS'.out.below HB.out)).mono ?_
  rintro e w2 ⟨rfl, hb⟩
  have yw2 := hb.size
  clear ka0 fa0 ka1 fa1 ka2 fa2 za
  clear kb0 fb0 kb1 fb1 kb2 fb2 zb
  replace Xa := hide (hbel Xa.out hb (by first | assumption | omega))
  replace Xb := hide (hbel Xb.out hb (by first | assumption | omega))
  replace HB := hide (bl_trans HB.out hb)
  clear hb
  have ka0 : w2.cell? ⟨w.heap.size, 0, none⟩ = some (Value.slice a n c) := (Lib.cell_of_heap Xa.out 0).trans rfl
  have fa0 : w2.frozen? ⟨w.heap.size, 0, none⟩ = false := Lib.frozen_of_heap Xa.out 0
  have ka1 : w2.cell? ⟨w.heap.size, 1, none⟩ = some (Value.slice b m d) := (Lib.cell_of_heap Xa.out 1).trans rfl
  have fa1 : w2.frozen? ⟨w.heap.size, 1, none⟩ = false := Lib.frozen_of_heap Xa.out 1
  have ka2 : w2.cell? ⟨w.heap.size, 2, none⟩ = some (Value.slice e l f) := (Lib.cell_of_heap Xa.out 2).trans rfl
  have fa2 : w2.frozen? ⟨w.heap.size, 2, none⟩ = false := Lib.frozen_of_heap Xa.out 2
  have za : w.heap.size < w2.heap.size := hlt Xa.out
  have kb0 : w2.cell? ⟨w.heap.size + 1, 0, none⟩ = some (Value.slice a' n c') := (Lib.cell_of_heap Xb.out 0).trans rfl
  have fb0 : w2.frozen? ⟨w.heap.size + 1, 0, none⟩ = false := Lib.frozen_of_heap Xb.out 0
  have kb1 : w2.cell? ⟨w.heap.size + 1, 1, none⟩ = some (Value.slice b' m d') := (Lib.cell_of_heap Xb.out 1).trans rfl
  have fb1 : w2.frozen? ⟨w.heap.size + 1, 1, none⟩ = false := Lib.frozen_of_heap Xb.out 1
  have kb2 : w2.cell? ⟨w.heap.size + 1, 2, none⟩ = some (Value.slice e' l f') := (Lib.cell_of_heap Xb.out 2).trans rfl
  have fb2 : w2.frozen? ⟨w.heap.size + 1, 2, none⟩ = false := Lib.frozen_of_heap Xb.out 2
  have zb : w.heap.size + 1 < w2.heap.size := hlt Xb.out
  go_wp2_with fail
  refine (eqPfS b b' m d d' X X' ps _ (HP.out.below HB.out) (HP'.out.below HB.out) hsp).mono ?_
  rintro e w3 ⟨rfl, hb⟩
  have yw3 := hb.size
  clear ka0 fa0 ka1 fa1 ka2 fa2 za
  clear kb0 fb0 kb1 fb1 kb2 fb2 zb
  replace Xa := hide (hbel Xa.out hb (by first | assumption | omega))
  replace Xb := hide (hbel Xb.out hb (by first | assumption | omega))
  replace HB := hide (bl_trans HB.out hb)
  clear hb
  have ka0 : w3.cell? ⟨w.heap.size, 0, none⟩ = some (Value.slice a n c) := (Lib.cell_of_heap Xa.out 0).trans rfl
  have fa0 : w3.frozen? ⟨w.heap.size, 0, none⟩ = false := Lib.frozen_of_heap Xa.out 0
  have ka1 : w3.cell? ⟨w.heap.size, 1, none⟩ = some (Value.slice b m d) := (Lib.cell_of_heap Xa.out 1).trans rfl
  have fa1 : w3.frozen? ⟨w.heap.size, 1, none⟩ = false := Lib.frozen_of_heap Xa.out 1
  have ka2 : w3.cell? ⟨w.heap.size, 2, none⟩ = some (Value.slice e l f) := (Lib.cell_of_heap Xa.out 2).trans rfl
  have fa2 : w3.frozen? ⟨w.heap.size, 2, none⟩ = false := Lib.frozen_of_heap Xa.out 2
  have za : w.heap.size < w3.heap.size := hlt Xa.out
  have kb0 : w3.cell? ⟨w.heap.size + 1, 0, none⟩ = some (Value.slice a' n c') := (Lib.cell_of_heap Xb.out 0).trans rfl
  have fb0 : w3.frozen? ⟨w.heap.size + 1, 0, none⟩ = false := Lib.frozen_of_heap Xb.out 0
  have kb1 : w3.cell? ⟨w.heap.size + 1, 1, none⟩ = some (Value.slice b' m d') := (Lib.cell_of_heap Xb.out 1).trans rfl
  have fb1 : w3.frozen? ⟨w.heap.size + 1, 1, none⟩ = false := Lib.frozen_of_heap Xb.out 1
  have kb2 : w3.cell? ⟨w.heap.size + 1, 2, none⟩ = some (Value.slice e' l f') := (Lib.cell_of_heap Xb.out 2).trans rfl
  have fb2 : w3.frozen? ⟨w.heap.size + 1, 2, none⟩ = false := Lib.frozen_of_heap Xb.out 2
  have zb : w.heap.size + 1 < w3.heap.size := hlt Xb.out
  go_wp2_with fail
  refine (eqUnS e e' l f f' Y Y' us _ (HU.out.below HB.out) (HU'.out.below HB.out) hsu).mono ?_
  rintro e w4 ⟨rfl, hb⟩
  have yw4 := hb.size
  clear ka0 fa0 ka1 fa1 ka2 fa2 za
  clear kb0 fb0 kb1 fb1 kb2 fb2 zb
  replace Xa := hide (hbel Xa.out hb (by first | assumption | omega))
  replace Xb := hide (hbel Xb.out hb (by first | assumption | omega))
  replace HB := hide (bl_trans HB.out hb)
  clear hb
  have ka0 : w4.cell? ⟨w.heap.size, 0, none⟩ = some (Value.slice a n c) := (Lib.cell_of_heap Xa.out 0).trans rfl
  have fa0 : w4.frozen? ⟨w.heap.size, 0, none⟩ = false := Lib.frozen_of_heap Xa.out 0
  have ka1 : w4.cell? ⟨w.heap.size, 1, none⟩ = some (Value.slice b m d) := (Lib.cell_of_heap Xa.out 1).trans rfl
  have fa1 : w4.frozen? ⟨w.heap.size, 1, none⟩ = false := Lib.frozen_of_heap Xa.out 1
  have ka2 : w4.cell? ⟨w.heap.size, 2, none⟩ = some (Value.slice e l f) := (Lib.cell_of_heap Xa.out 2).trans rfl
  have fa2 : w4.frozen? ⟨w.heap.size, 2, none⟩ = false := Lib.frozen_of_heap Xa.out 2
  have za : w.heap.size < w4.heap.size := hlt Xa.out
  have kb0 : w4.cell? ⟨w.heap.size + 1, 0, none⟩ = some (Value.slice a' n c') := (Lib.cell_of_heap Xb.out 0).trans rfl
  have fb0 : w4.frozen? ⟨w.heap.size + 1, 0, none⟩ = false := Lib.frozen_of_heap Xb.out 0
  have kb1 : w4.cell? ⟨w.heap.size + 1, 1, none⟩ = some (Value.slice b' m d') := (Lib.cell_of_heap Xb.out 1).trans rfl
  have fb1 : w4.frozen? ⟨w.heap.size + 1, 1, none⟩ = false := Lib.frozen_of_heap Xb.out 1
  have kb2 : w4.cell? ⟨w.heap.size + 1, 2, none⟩ = some (Value.slice e' l f') := (Lib.cell_of_heap Xb.out 2).trans rfl
  have fb2 : w4.frozen? ⟨w.heap.size + 1, 2, none⟩ = false := Lib.frozen_of_heap Xb.out 2
  have zb : w.heap.size + 1 < w4.heap.size := hlt Xb.out
  go_wp2
  go_ret
  exact ⟨rfl, HB.out⟩
end Go.Proofs.YtnjaejaibbgkpaaGreat

/- What the law asks of lists of named measures (Var): how great one is, a copy of one, whether two are alike. -/
namespace Go.Proofs.YtnjaejaibbgkpaaGreat
open Go.RowKit
set_option linter.unusedVariables false
set_option maxRecDepth 20000

/-- a named measure: a text, a fraction, powers -/
def Sh7 (r : List Lf) : Prop := ∃ nm n xs m ys den ps, r = [.t nm, .b n, .l xs, .b m, .l ys, .i den, .p ps]
theorem open7 {W : World} {X : Nat → Prop} {g o : Nat} {nm : ByteArray} {n : Bool} {xs : List Nat} {m : Bool} {ys : List Nat} {den : Int} {ps : List Int} (h : Rec W X g o [.t nm, .b n, .l xs, .b m, .l ys, .i den, .p ps]) : ∃ a1 c1 a2 c2 a3 c3, W.cell? ⟨g, o, none⟩ = some (.string nm) ∧ W.cell? ⟨g, o + 1, none⟩ = some (.bool n) ∧ W.cell? ⟨g, o + 2, none⟩ = some (.slice a1 xs.length c1) ∧ W.cell? ⟨g, o + 3, none⟩ = some (.bool m) ∧ W.cell? ⟨g, o + 4, none⟩ = some (.slice a2 ys.length c2) ∧ W.cell? ⟨g, o + 5, none⟩ = some (.int .i64 den) ∧ W.cell? ⟨g, o + 6, none⟩ = some (.slice a3 ps.length c3) ∧ Seg W a1 xs.length c1 xs ∧ Seg W a2 ys.length c2 ys ∧ V.Seg W a3 ps.length c3 ps ∧ (∀ q, a1 = some q → X q.block) ∧ (∀ q, a2 = some q → X q.block) ∧ ∀ q, a3 = some q → X q.block := by
  obtain ⟨t0, t1, ⟨a1, c1, t2, s1, x1⟩, t3, ⟨a2, c2, t4, s2, x2⟩, t5, ⟨a3, c3, t6, s3, x3⟩, _⟩ := h
  exact ⟨a1, c1, a2, c2, a3, c3, t0, t1, t2, t3, t4, t5, t6, s1, s2, s3, x1, x2, x3⟩

end Go.Proofs.YtnjaejaibbgkpaaGreat
