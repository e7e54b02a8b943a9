/- What the law asks of formulas: how great one is, a copy of one, whether two are alike. -/
import Derived.Test.YtlknhheafmifnaaGreatDoorPk06
import Derived.Test.YtlknhheafmifnaaGreatDoorPk16
import Derived.Deep.RegionHeld3
namespace Go.Proofs.YtlknhheafmifnaaGreatDoor
open Go.RowKit
set_option linter.unusedVariables false
set_option maxRecDepth 20000

theorem own_lt {w : World} {base : Nat} {a : Option Addr} {n c : Nat} {xs : List Nat} (h : Own w base a n c xs) : ∀ q, a = some q → q.block < w.heap.size := by
  intro q e
  rcases h.cases with ⟨h0, _⟩ | ⟨g, h0, _, h1⟩
  · rw [h0] at e; cases e
  · rw [h0] at e; cases e; exact h1
/-- szExpr's contract at one formula -/
def SzC (e : Ex) : Prop := ∀ (kd : Int) (n : Bool) (xs : List Nat) (m : Bool) (ys : List Nat) (nm : ByteArray) (p q : Int) (ks : List Ex), e = .mk kd n xs m ys nm p q ks → ∀ (X : Nat → Prop) (a1 : Option Addr) (c1 : Nat) (a2 : Option Addr) (c2 : Nat) (a : Option Addr) (c : Nat) (L : Int) (w : World), Seg w a1 xs.length c1 xs → Seg w a2 ys.length c2 ys → KSeg w X a ks.length c ks → nm.size ≤ 9223372036854775807 → 0 ≤ L → L ≤ 1048576 →
    Calls Tryz.prog 5 #[Value.agg #[Value.int .i64 kd, Value.bool n, Value.slice a1 xs.length c1, Value.bool m, Value.slice a2 ys.length c2, Value.string nm, Value.int .i64 p, Value.int .i64 q, Value.slice a ks.length c], .int .i64 L] w fun e' w' => e' = .returned (.int .i64 (rleft L e.sz)) ∧ Below w.heap.size w w'


set_option maxHeartbeats 8000000 in
set_option maxRecDepth 20000 in
theorem szExS (aa : Option Addr) (nn cap : Nat) (X : Nat → Prop) (rs : List Ex) (L : Int) (w : World) (hs : KSeg w X aa nn cap rs) (IH : ∀ r ∈ rs, SzC r) (h0 : 0 ≤ L) (h1 : L ≤ 1048576) :
    Calls Tryz.prog 13 #[.slice aa nn cap, .int .i64 L] w fun e w' => e = .returned (.int .i64 (rleft L (ksz rs))) ∧ Below w.heap.size w w' := by
  have hn : nn ≤ 9223372036854775807 := hs.le
  have hcap := hs.2.1
  have hcm := hs.2.2.1
  have hxl := hs.1
  have HS := hide hs
  have HK := hide (ksz_eq rs)
  clear hs
  by_cases hL : L < nn
  · have HZ : Hid (rleft L (ksz rs) = -1) := hide (by rw [HK.out]; unfold rleft; rw [if_pos (by omega)])
    have h' : L - (nn : Int) < 0 := by omega
    go_enter Tryz.func13, Tryz.ntmps13
    go_wp2
    go_ret
    exact ⟨ret_int HZ.out.symm, bl_refl w⟩
  have h' : ¬ L - (nn : Int) < 0 := by omega
  go_enter Tryz.func13, Tryz.ntmps13
  go_wp2
  go_loopw [1, 5] (fun l i wr => ∃ (k : Nat) (z : Int), k ≤ nn ∧ l = .int .i64 z ∧ i = .int .i64 k ∧ 0 ≤ z ∧ z ≤ 1048576 ∧ Hid (z = L - nn - kszs (rs.take k)) ∧ Hid (Below w.heap.size w wr)) (fun _ i _ => nn - (intOf i).toNat)
  case atStart => exact ⟨0, L - nn, Nat.zero_le _, rfl, rfl, by omega, by omega, hide (by simp [kszs]), hide (bl_refl w)⟩
  case round =>
    obtain ⟨k, z, hk, rfl, rfl, hq0, hq1, hq, hb⟩ := hrel
    by_cases hlt : k < nn
    · have hlt' : (k : Int) < (nn : Int) := by omega
      have hkx : k < rs.length := by omega
      obtain ⟨g, o, rfl, hg, _, hrec⟩ := (HS.out.below hb.out).at hkx
      have E1 := hide (kszs_take rs k hkx)
      have E2 := hide (kszs_mono rs k hkx)
      have HC := hide (IH rs[k] (List.getElem_mem _))
      obtain ⟨r, er⟩ : ∃ r, rs[k] = r := ⟨_, rfl⟩
      rw [er] at hrec E1 E2 HC
      clear er
      obtain ⟨kd, n, xs, m, ys, nm, p, q, ks⟩ := r
      obtain ⟨a1, c1, a2, c2, a, c, t0, t1, t2, t3, t4, t5, t6, t7, t8, sg1, sg2, sg3, sgn⟩ := openEx hrec
      have H1 := hide sg1
      have H2 := hide sg2
      have H3 := hide sg3
      clear sg1 sg2 sg3
      go_wp2_with fail
      refine (HC.out kd n xs m ys nm p q ks rfl X a1 c1 a2 c2 a c z wr H1.out H2.out H3.out sgn hq0 hq1).mono ?_
      rintro e w2 ⟨rfl, hb2⟩
      have hbb := hide (bl_trans hb.out hb2)
      clear hb2
      by_cases hq2 : z < (Ex.sz (Ex.mk kd n xs m ys nm p q ks) : Int)
      · have HE : Hid (rleft z (Ex.sz (Ex.mk kd n xs m ys nm p q ks)) = -1) := hide (by unfold rleft; rw [if_pos hq2])
        rw [HE.out]
        go_wp2
        go_ret
        exact ⟨ret_int (by have := hq.out; have := E2.out; have := HK.out; unfold rleft; rw [if_pos (by omega)]), hbb.out⟩
      · have HE : Hid (rleft z (Ex.sz (Ex.mk kd n xs m ys nm p q ks)) = z - (Ex.sz (Ex.mk kd n xs m ys nm p q ks) : Int)) := hide (by unfold rleft; rw [if_neg hq2])
        rw [HE.out]
        generalize Ex.sz (Ex.mk kd n xs m ys nm p q ks) = y at *
        have hz0 : ¬ z - (y : Int) < 0 := by omega
        go_wp2
        exact ⟨⟨k + 1, z - y, by omega, rfl, by go_num, by omega, by omega, hide (by rw [E1.out]; have := hq.out; omega), hbb⟩, by simp [intOf]; omega⟩
    · obtain rfl : k = nn := by omega
      go_wp2
      go_ret
      exact ⟨ret_int (by have := hq.out; have h3 := HK.out; rw [List.take_of_length_le (by omega)] at this; unfold rleft; rw [if_neg (by omega)]; omega), hb.out⟩


set_option maxHeartbeats 8000000 in
set_option maxRecDepth 20000 in
theorem szEx : ∀ (N : Nat) (e : Ex), e.cnt ≤ N → SzC e
  | 0, e, h => by rw [cnt_ks] at h; omega
  | N + 1, .mk kd n xs m ys nm p q ks, h => by
    rw [cnt_ks] at h
    have IH : ∀ r ∈ ks, SzC r := fun r hr => szEx N r (by have := kcnt_mem hr; have h2 : 1 + kcnt ks ≤ N + 1 := h; omega)
    clear h
    intro kd' n' xs' m' ys' nm' p' q' ks' heq X a1 c1 a2 c2 a c L w s1 s2 s3 hnm h0 h1
    cases heq
    have q1 := s1.le
    have q2 := s2.le
    have q3 := s3.le
    have HZ : Hid (Ex.sz (Ex.mk kd n xs m ys nm p q ks) = xs.length + ys.length + nm.size + ksz ks) := hide (by rw [Ex.sz])
    have S3 := hide s3
    clear s1 s2 s3
    have Xa : Hid ((w.alloc (Obj.cells #[Value.int .i64 kd, Value.bool n, Value.slice a1 xs.length c1, Value.bool m, Value.slice a2 ys.length c2, Value.string nm, Value.int .i64 p, Value.int .i64 q, Value.slice a ks.length c] 29)).heap[w.heap.size]? = some (.cells #[Value.int .i64 kd, Value.bool n, Value.slice a1 xs.length c1, Value.bool m, Value.slice a2 ys.length c2, Value.string nm, Value.int .i64 p, Value.int .i64 q, Value.slice a ks.length c] 29 (0, 0))) := hide (by simpa only [World.size_alloc] using (hnew w (Obj.cells #[Value.int .i64 kd, Value.bool n, Value.slice a1 xs.length c1, Value.bool m, Value.slice a2 ys.length c2, Value.string nm, Value.int .i64 p, Value.int .i64 q, Value.slice a ks.length c] 29)))
    have HB : Hid (Below w.heap.size w (w.alloc (Obj.cells #[Value.int .i64 kd, Value.bool n, Value.slice a1 xs.length c1, Value.bool m, Value.slice a2 ys.length c2, Value.string nm, Value.int .i64 p, Value.int .i64 q, Value.slice a ks.length c] 29))) := hide (bl_alloc (bl_refl w) (Obj.cells #[Value.int .i64 kd, Value.bool n, Value.slice a1 xs.length c1, Value.bool m, Value.slice a2 ys.length c2, Value.string nm, Value.int .i64 p, Value.int .i64 q, Value.slice a ks.length c] 29))
    have yw1 : w.heap.size + 1 ≤ (w.alloc (Obj.cells #[Value.int .i64 kd, Value.bool n, Value.slice a1 xs.length c1, Value.bool m, Value.slice a2 ys.length c2, Value.string nm, Value.int .i64 p, Value.int .i64 q, Value.slice a ks.length c] 29)).heap.size := by simp only [World.size_alloc]; omega
    have ka0 : (w.alloc (Obj.cells #[Value.int .i64 kd, Value.bool n, Value.slice a1 xs.length c1, Value.bool m, Value.slice a2 ys.length c2, Value.string nm, Value.int .i64 p, Value.int .i64 q, Value.slice a ks.length c] 29)).cell? ⟨w.heap.size, 0, none⟩ = some (Value.int .i64 kd) := (Lib.cell_of_heap Xa.out 0).trans rfl
    have fa0 : (w.alloc (Obj.cells #[Value.int .i64 kd, Value.bool n, Value.slice a1 xs.length c1, Value.bool m, Value.slice a2 ys.length c2, Value.string nm, Value.int .i64 p, Value.int .i64 q, Value.slice a ks.length c] 29)).frozen? ⟨w.heap.size, 0, none⟩ = false := Lib.frozen_of_heap Xa.out 0
    have ka1 : (w.alloc (Obj.cells #[Value.int .i64 kd, Value.bool n, Value.slice a1 xs.length c1, Value.bool m, Value.slice a2 ys.length c2, Value.string nm, Value.int .i64 p, Value.int .i64 q, Value.slice a ks.length c] 29)).cell? ⟨w.heap.size, 1, none⟩ = some (Value.bool n) := (Lib.cell_of_heap Xa.out 1).trans rfl
    have fa1 : (w.alloc (Obj.cells #[Value.int .i64 kd, Value.bool n, Value.slice a1 xs.length c1, Value.bool m, Value.slice a2 ys.length c2, Value.string nm, Value.int .i64 p, Value.int .i64 q, Value.slice a ks.length c] 29)).frozen? ⟨w.heap.size, 1, none⟩ = false := Lib.frozen_of_heap Xa.out 1
    have ka2 : (w.alloc (Obj.cells #[Value.int .i64 kd, Value.bool n, Value.slice a1 xs.length c1, Value.bool m, Value.slice a2 ys.length c2, Value.string nm, Value.int .i64 p, Value.int .i64 q, Value.slice a ks.length c] 29)).cell? ⟨w.heap.size, 2, none⟩ = some (Value.slice a1 xs.length c1) := (Lib.cell_of_heap Xa.out 2).trans rfl
    have fa2 : (w.alloc (Obj.cells #[Value.int .i64 kd, Value.bool n, Value.slice a1 xs.length c1, Value.bool m, Value.slice a2 ys.length c2, Value.string nm, Value.int .i64 p, Value.int .i64 q, Value.slice a ks.length c] 29)).frozen? ⟨w.heap.size, 2, none⟩ = false := Lib.frozen_of_heap Xa.out 2
    have ka3 : (w.alloc (Obj.cells #[Value.int .i64 kd, Value.bool n, Value.slice a1 xs.length c1, Value.bool m, Value.slice a2 ys.length c2, Value.string nm, Value.int .i64 p, Value.int .i64 q, Value.slice a ks.length c] 29)).cell? ⟨w.heap.size, 3, none⟩ = some (Value.bool m) := (Lib.cell_of_heap Xa.out 3).trans rfl
    have fa3 : (w.alloc (Obj.cells #[Value.int .i64 kd, Value.bool n, Value.slice a1 xs.length c1, Value.bool m, Value.slice a2 ys.length c2, Value.string nm, Value.int .i64 p, Value.int .i64 q, Value.slice a ks.length c] 29)).frozen? ⟨w.heap.size, 3, none⟩ = false := Lib.frozen_of_heap Xa.out 3
    have ka4 : (w.alloc (Obj.cells #[Value.int .i64 kd, Value.bool n, Value.slice a1 xs.length c1, Value.bool m, Value.slice a2 ys.length c2, Value.string nm, Value.int .i64 p, Value.int .i64 q, Value.slice a ks.length c] 29)).cell? ⟨w.heap.size, 4, none⟩ = some (Value.slice a2 ys.length c2) := (Lib.cell_of_heap Xa.out 4).trans rfl
    have fa4 : (w.alloc (Obj.cells #[Value.int .i64 kd, Value.bool n, Value.slice a1 xs.length c1, Value.bool m, Value.slice a2 ys.length c2, Value.string nm, Value.int .i64 p, Value.int .i64 q, Value.slice a ks.length c] 29)).frozen? ⟨w.heap.size, 4, none⟩ = false := Lib.frozen_of_heap Xa.out 4
    have ka5 : (w.alloc (Obj.cells #[Value.int .i64 kd, Value.bool n, Value.slice a1 xs.length c1, Value.bool m, Value.slice a2 ys.length c2, Value.string nm, Value.int .i64 p, Value.int .i64 q, Value.slice a ks.length c] 29)).cell? ⟨w.heap.size, 5, none⟩ = some (Value.string nm) := (Lib.cell_of_heap Xa.out 5).trans rfl
    have fa5 : (w.alloc (Obj.cells #[Value.int .i64 kd, Value.bool n, Value.slice a1 xs.length c1, Value.bool m, Value.slice a2 ys.length c2, Value.string nm, Value.int .i64 p, Value.int .i64 q, Value.slice a ks.length c] 29)).frozen? ⟨w.heap.size, 5, none⟩ = false := Lib.frozen_of_heap Xa.out 5
    have ka6 : (w.alloc (Obj.cells #[Value.int .i64 kd, Value.bool n, Value.slice a1 xs.length c1, Value.bool m, Value.slice a2 ys.length c2, Value.string nm, Value.int .i64 p, Value.int .i64 q, Value.slice a ks.length c] 29)).cell? ⟨w.heap.size, 6, none⟩ = some (Value.int .i64 p) := (Lib.cell_of_heap Xa.out 6).trans rfl
    have fa6 : (w.alloc (Obj.cells #[Value.int .i64 kd, Value.bool n, Value.slice a1 xs.length c1, Value.bool m, Value.slice a2 ys.length c2, Value.string nm, Value.int .i64 p, Value.int .i64 q, Value.slice a ks.length c] 29)).frozen? ⟨w.heap.size, 6, none⟩ = false := Lib.frozen_of_heap Xa.out 6
    have ka7 : (w.alloc (Obj.cells #[Value.int .i64 kd, Value.bool n, Value.slice a1 xs.length c1, Value.bool m, Value.slice a2 ys.length c2, Value.string nm, Value.int .i64 p, Value.int .i64 q, Value.slice a ks.length c] 29)).cell? ⟨w.heap.size, 7, none⟩ = some (Value.int .i64 q) := (Lib.cell_of_heap Xa.out 7).trans rfl
    have fa7 : (w.alloc (Obj.cells #[Value.int .i64 kd, Value.bool n, Value.slice a1 xs.length c1, Value.bool m, Value.slice a2 ys.length c2, Value.string nm, Value.int .i64 p, Value.int .i64 q, Value.slice a ks.length c] 29)).frozen? ⟨w.heap.size, 7, none⟩ = false := Lib.frozen_of_heap Xa.out 7
    have ka8 : (w.alloc (Obj.cells #[Value.int .i64 kd, Value.bool n, Value.slice a1 xs.length c1, Value.bool m, Value.slice a2 ys.length c2, Value.string nm, Value.int .i64 p, Value.int .i64 q, Value.slice a ks.length c] 29)).cell? ⟨w.heap.size, 8, none⟩ = some (Value.slice a ks.length c) := (Lib.cell_of_heap Xa.out 8).trans rfl
    have fa8 : (w.alloc (Obj.cells #[Value.int .i64 kd, Value.bool n, Value.slice a1 xs.length c1, Value.bool m, Value.slice a2 ys.length c2, Value.string nm, Value.int .i64 p, Value.int .i64 q, Value.slice a ks.length c] 29)).frozen? ⟨w.heap.size, 8, none⟩ = false := Lib.frozen_of_heap Xa.out 8
    have za : w.heap.size < (w.alloc (Obj.cells #[Value.int .i64 kd, Value.bool n, Value.slice a1 xs.length c1, Value.bool m, Value.slice a2 ys.length c2, Value.string nm, Value.int .i64 p, Value.int .i64 q, Value.slice a ks.length c] 29)).heap.size := hlt Xa.out
    go_enter Tryz.func5, Tryz.ntmps5
    go_wp2_with fail
    generalize (w.alloc (Obj.cells #[Value.int .i64 kd, Value.bool n, Value.slice a1 xs.length c1, Value.bool m, Value.slice a2 ys.length c2, Value.string nm, Value.int .i64 p, Value.int .i64 q, Value.slice a ks.length c] 29)) = w1 at *
    refine (szR n a1 xs.length c1 m a2 ys.length c2 L _ q1 q2 h0 h1).mono ?_
    rintro e w2 ⟨rfl, hb⟩
    have yw2 := hb.size
    clear ka0 fa0 ka1 fa1 ka2 fa2 ka3 fa3 ka4 fa4 ka5 fa5 ka6 fa6 ka7 fa7 ka8 fa8 za
    replace Xa := hide (hbel Xa.out hb (by first | assumption | omega))
    replace HB := hide (bl_trans HB.out hb)
    clear hb
    have ka0 : w2.cell? ⟨w.heap.size, 0, none⟩ = some (Value.int .i64 kd) := (Lib.cell_of_heap Xa.out 0).trans rfl
    have fa0 : w2.frozen? ⟨w.heap.size, 0, none⟩ = false := Lib.frozen_of_heap Xa.out 0
    have ka1 : w2.cell? ⟨w.heap.size, 1, none⟩ = some (Value.bool n) := (Lib.cell_of_heap Xa.out 1).trans rfl
    have fa1 : w2.frozen? ⟨w.heap.size, 1, none⟩ = false := Lib.frozen_of_heap Xa.out 1
    have ka2 : w2.cell? ⟨w.heap.size, 2, none⟩ = some (Value.slice a1 xs.length c1) := (Lib.cell_of_heap Xa.out 2).trans rfl
    have fa2 : w2.frozen? ⟨w.heap.size, 2, none⟩ = false := Lib.frozen_of_heap Xa.out 2
    have ka3 : w2.cell? ⟨w.heap.size, 3, none⟩ = some (Value.bool m) := (Lib.cell_of_heap Xa.out 3).trans rfl
    have fa3 : w2.frozen? ⟨w.heap.size, 3, none⟩ = false := Lib.frozen_of_heap Xa.out 3
    have ka4 : w2.cell? ⟨w.heap.size, 4, none⟩ = some (Value.slice a2 ys.length c2) := (Lib.cell_of_heap Xa.out 4).trans rfl
    have fa4 : w2.frozen? ⟨w.heap.size, 4, none⟩ = false := Lib.frozen_of_heap Xa.out 4
    have ka5 : w2.cell? ⟨w.heap.size, 5, none⟩ = some (Value.string nm) := (Lib.cell_of_heap Xa.out 5).trans rfl
    have fa5 : w2.frozen? ⟨w.heap.size, 5, none⟩ = false := Lib.frozen_of_heap Xa.out 5
    have ka6 : w2.cell? ⟨w.heap.size, 6, none⟩ = some (Value.int .i64 p) := (Lib.cell_of_heap Xa.out 6).trans rfl
    have fa6 : w2.frozen? ⟨w.heap.size, 6, none⟩ = false := Lib.frozen_of_heap Xa.out 6
    have ka7 : w2.cell? ⟨w.heap.size, 7, none⟩ = some (Value.int .i64 q) := (Lib.cell_of_heap Xa.out 7).trans rfl
    have fa7 : w2.frozen? ⟨w.heap.size, 7, none⟩ = false := Lib.frozen_of_heap Xa.out 7
    have ka8 : w2.cell? ⟨w.heap.size, 8, none⟩ = some (Value.slice a ks.length c) := (Lib.cell_of_heap Xa.out 8).trans rfl
    have fa8 : w2.frozen? ⟨w.heap.size, 8, none⟩ = false := Lib.frozen_of_heap Xa.out 8
    have za : w.heap.size < w2.heap.size := hlt Xa.out
    by_cases d1 : L < (xs.length : Int)
    · rw [if_pos d1]
      go_wp2
      go_ret
      exact ⟨ret_int (by rw [HZ.out]; unfold rleft; rw [if_pos (by omega)]), HB.out⟩
    rw [if_neg d1]
    by_cases d2 : L - (xs.length : Int) < (ys.length : Int)
    · rw [if_pos d2]
      go_wp2
      go_ret
      exact ⟨ret_int (by rw [HZ.out]; unfold rleft; rw [if_pos (by omega)]), HB.out⟩
    rw [if_neg d2]
    have d2' : ¬ L - (xs.length : Int) - (ys.length : Int) < 0 := by omega
    by_cases d3 : L - (xs.length : Int) - (ys.length : Int) - (nm.size : Int) < 0
    · go_wp2
      go_ret
      exact ⟨ret_int (by rw [HZ.out]; unfold rleft; rw [if_pos (by omega)]), HB.out⟩
    go_wp2_with fail
    refine (szExS a ks.length c X ks (L - (xs.length : Int) - (ys.length : Int) - (nm.size : Int)) _ (S3.out.below HB.out) IH (by omega) (by omega)).mono ?_
    rintro e w3 ⟨rfl, hb⟩
    have yw3 := hb.size
    clear ka0 fa0 ka1 fa1 ka2 fa2 ka3 fa3 ka4 fa4 ka5 fa5 ka6 fa6 ka7 fa7 ka8 fa8 za
    replace Xa := hide (hbel Xa.out hb (by first | assumption | omega))
    replace HB := hide (bl_trans HB.out hb)
    clear hb
    have ka0 : w3.cell? ⟨w.heap.size, 0, none⟩ = some (Value.int .i64 kd) := (Lib.cell_of_heap Xa.out 0).trans rfl
    have fa0 : w3.frozen? ⟨w.heap.size, 0, none⟩ = false := Lib.frozen_of_heap Xa.out 0
    have ka1 : w3.cell? ⟨w.heap.size, 1, none⟩ = some (Value.bool n) := (Lib.cell_of_heap Xa.out 1).trans rfl
    have fa1 : w3.frozen? ⟨w.heap.size, 1, none⟩ = false := Lib.frozen_of_heap Xa.out 1
    have ka2 : w3.cell? ⟨w.heap.size, 2, none⟩ = some (Value.slice a1 xs.length c1) := (Lib.cell_of_heap Xa.out 2).trans rfl
    have fa2 : w3.frozen? ⟨w.heap.size, 2, none⟩ = false := Lib.frozen_of_heap Xa.out 2
    have ka3 : w3.cell? ⟨w.heap.size, 3, none⟩ = some (Value.bool m) := (Lib.cell_of_heap Xa.out 3).trans rfl
    have fa3 : w3.frozen? ⟨w.heap.size, 3, none⟩ = false := Lib.frozen_of_heap Xa.out 3
    have ka4 : w3.cell? ⟨w.heap.size, 4, none⟩ = some (Value.slice a2 ys.length c2) := (Lib.cell_of_heap Xa.out 4).trans rfl
    have fa4 : w3.frozen? ⟨w.heap.size, 4, none⟩ = false := Lib.frozen_of_heap Xa.out 4
    have ka5 : w3.cell? ⟨w.heap.size, 5, none⟩ = some (Value.string nm) := (Lib.cell_of_heap Xa.out 5).trans rfl
    have fa5 : w3.frozen? ⟨w.heap.size, 5, none⟩ = false := Lib.frozen_of_heap Xa.out 5
    have ka6 : w3.cell? ⟨w.heap.size, 6, none⟩ = some (Value.int .i64 p) := (Lib.cell_of_heap Xa.out 6).trans rfl
    have fa6 : w3.frozen? ⟨w.heap.size, 6, none⟩ = false := Lib.frozen_of_heap Xa.out 6
    have ka7 : w3.cell? ⟨w.heap.size, 7, none⟩ = some (Value.int .i64 q) := (Lib.cell_of_heap Xa.out 7).trans rfl
    have fa7 : w3.frozen? ⟨w.heap.size, 7, none⟩ = false := Lib.frozen_of_heap Xa.out 7
    have ka8 : w3.cell? ⟨w.heap.size, 8, none⟩ = some (Value.slice a ks.length c) := (Lib.cell_of_heap Xa.out 8).trans rfl
    have fa8 : w3.frozen? ⟨w.heap.size, 8, none⟩ = false := Lib.frozen_of_heap Xa.out 8
    have za : w.heap.size < w3.heap.size := hlt Xa.out
    by_cases d4 : L - (xs.length : Int) - (ys.length : Int) - (nm.size : Int) < ((ksz ks : Nat) : Int)
    · have hr : rleft (L - (xs.length : Int) - (ys.length : Int) - (nm.size : Int)) (ksz ks) = -1 := by unfold rleft; rw [if_pos d4]
      rw [hr]
      go_wp2
      go_ret
      exact ⟨ret_int (by rw [HZ.out]; unfold rleft; rw [if_pos (by omega)]), HB.out⟩
    have hr : rleft (L - (xs.length : Int) - (ys.length : Int) - (nm.size : Int)) (ksz ks) = L - (xs.length : Int) - (ys.length : Int) - (nm.size : Int) - ((ksz ks : Nat) : Int) := by unfold rleft; rw [if_neg d4]
    rw [hr]
    have d4' : ¬ L - (xs.length : Int) - (ys.length : Int) - (nm.size : Int) - ((ksz ks : Nat) : Int) < 0 := by omega
    go_wp2
    go_ret
    exact ⟨ret_int (by rw [HZ.out]; unfold rleft; rw [if_neg (by omega)]; omega), HB.out⟩

/-- toExpr's contract at one formula -/
def ToC (e : Ex) : Prop := ∀ (kd : Int) (n : Bool) (xs : List Nat) (m : Bool) (ys : List Nat) (nm : ByteArray) (p q : Int) (ks : List Ex), e = .mk kd n xs m ys nm p q ks → ∀ (X : Nat → Prop) (a1 : Option Addr) (c1 : Nat) (a2 : Option Addr) (c2 : Nat) (a : Option Addr) (c : Nat) (w : World), Seg w a1 xs.length c1 xs → Seg w a2 ys.length c2 ys → KSeg w X a ks.length c ks → e.sz ≤ 1048576 →
    Calls Tryz.prog 7 #[Value.agg #[Value.int .i64 kd, Value.bool n, Value.slice a1 xs.length c1, Value.bool m, Value.slice a2 ys.length c2, Value.string nm, Value.int .i64 p, Value.int .i64 q, Value.slice a ks.length c]] w fun e' w' => ∃ b1 d1 b2 d2 b, e' = .returned (Value.agg #[Value.int .i64 kd, Value.bool n, Value.slice b1 xs.length d1, Value.bool m, Value.slice b2 ys.length d2, Value.string nm, Value.int .i64 p, Value.int .i64 q, Value.slice b ks.length ks.length]) ∧ Own w' w.heap.size b1 xs.length d1 xs ∧ Own w' w.heap.size b2 ys.length d2 ys ∧ KSeg w' (fun k => w.heap.size ≤ k ∧ k < w'.heap.size) b ks.length ks.length ks ∧ Below w.heap.size w w'
theorem Tryz.infoEx : (Tryz.prog.info? 37).map (fun i => (i.zero, i.size, i.bytes)) = some (some (.agg #[.int .i64 0, .bool false, .slice none 0 0, .bool false, .slice none 0 0, .string ⟨#[]⟩, .int .i64 0, .int .i64 0, .slice none 0 0]), 9, 128) := by kernel_rfl
/-- kids that are made: their own block, the first k of them laid -/
def KMade (W : World) (base : Nat) (g n k : Nat) (ks : List Ex) : Prop :=
  base ≤ g ∧ (∃ cs, W.ownsRow base 37 9 (.slice (some ⟨g, 0, none⟩) n n) n cs) ∧ ∀ j (hj : j < ks.length), j < k → ExAt W (fun b => g < b ∧ b < W.heap.size) g (j * 9) ks[j]


theorem KMade.lt {W : World} {base : Nat} {g n k : Nat} {ks : List Ex} (h : KMade W base g n k ks) : g < W.heap.size := by
  obtain ⟨h0, ⟨cs, h1⟩, h2⟩ := h
  exact (h1.lt g rfl).2
theorem KMade.below {W W' : World} {base : Nat} {g n k : Nat} {ks : List Ex} (h : KMade W base g n k ks) (hb : Below W.heap.size W W') : KMade W' base g n k ks := by
  have hg := KMade.lt h
  obtain ⟨h0, ⟨cs, h1⟩, h2⟩ := h
  refine ⟨h0, ⟨cs, h1.kept (grown_of_below hb) (.inr (by simp [Value.ownBlock]))⟩, fun j hj hk => ?_⟩
  have hs := hb.size
  exact ExAt.mono (fun b hb => ⟨hb.1, by omega⟩) _ _ _ (ExAt.belowG (h2 j hj hk) hg hb)
theorem KMade.cellAt {W : World} {base : Nat} {g n m : Nat} {ks : List Ex} {k : Nat} (h : KMade W base g n m ks) (j : Nat) (hk : k < n) (hj : j < 9) : ∃ v, W.cell? ⟨g, k * 9 + j, none⟩ = some v ∧ W.frozen? ⟨g, k * 9 + j, none⟩ = false := by
  obtain ⟨h0, ⟨cs, h1⟩, h2⟩ := h
  have hl : cs.length = n * 9 := h1.1
  have e2 := h1.cellAt (k * 9 + j) (by omega)
  exact ⟨cs[k * 9 + j]'(by omega), e2.trans (List.getElem?_eq_getElem _), h1.frozenAt _⟩
theorem KMade.seg {W : World} {base : Nat} {g n : Nat} {ks : List Ex} (h : KMade W base g n n ks) (hl : ks.length = n) (hn : n ≤ 9223372036854775807) : KSeg W (fun k => base ≤ k ∧ k < W.heap.size) (some ⟨g, 0, none⟩) n n ks := by
  have hg := KMade.lt h
  obtain ⟨h0, ⟨cs, h1⟩, h2⟩ := h
  refine ⟨hl, Nat.le_refl _, hn, (fun q e => by cases e; exact ⟨h0, hg⟩), .inr ⟨g, 0, rfl, hg, KsAt.mk fun j hj => ?_⟩⟩
  rw [Nat.zero_add]
  exact ExAt.mono (fun b hb => ⟨by omega, hb.2⟩) _ _ _ (h2 j hj (by omega))
theorem KMade.put {W : World} {base : Nat} {g n k : Nat} {rs : List Ex} (h : KMade W base g n k rs) (hk : k < n) (kd : Int) (nn : Bool) (xs : List Nat) (m : Bool) (ys : List Nat) (nm : ByteArray) (p q : Int) (ks : List Ex) {hkx : k < rs.length} (er : rs[k] = .mk kd nn xs m ys nm p q ks) (hw : rwf [.i kd, .b nn, .l xs, .b m, .l ys, .t nm, .i p, .i q])
    (b1 : Option Addr) (d1 : Nat) (b2 : Option Addr) (d2 : Nat) (b : Option Addr) (d : Nat) (s1 : Seg W b1 xs.length d1 xs) (s2 : Seg W b2 ys.length d2 ys) (x1 : ∀ q, b1 = some q → g < q.block ∧ q.block < W.heap.size) (x2 : ∀ q, b2 = some q → g < q.block ∧ q.block < W.heap.size) (s3 : KSeg W (fun k => g < k ∧ k < W.heap.size) b ks.length d ks) :
    KMade (W.setCells g (k * 9) [Value.int .i64 kd, Value.bool nn, Value.slice b1 xs.length d1, Value.bool m, Value.slice b2 ys.length d2, Value.string nm, Value.int .i64 p, Value.int .i64 q, Value.slice b ks.length d]) base g n (k + 1) rs := by
  have hg := KMade.lt h
  have hcell := fun j (hj : j < 9) => KMade.cellAt h j hk hj
  obtain ⟨h0, ⟨cs, h1⟩, h2⟩ := h
  have hst : ∀ (vs : List Value) (u : Nat), St g W (W.setCells g u vs) := fun vs u => st_cells g vs u W W (St.refl _ _)
  have hown : ∀ (vs : List Value) (u : Nat) (W : World) cs, W.ownsRow base 37 9 (.slice (some ⟨g, 0, none⟩) n n) n cs → ∃ cs', (W.setCells g u vs).ownsRow base 37 9 (.slice (some ⟨g, 0, none⟩) n n) n cs' := by
    intro vs
    induction vs with
    | nil => intro u W cs h; exact ⟨cs, h⟩
    | cons v vs ih => intro u W cs h; exact ih (u + 1) _ _ (h.stored u v).1
  refine ⟨h0, hown _ _ _ _ h1, fun j hj hjk => ?_⟩
  by_cases e : j = k
  · subst e
    rw [er]
    refine ExAt.mono (X := fun k => g < k ∧ k < W.heap.size) (fun b hb => ⟨hb.1, by rw [(hst _ _).size]; exact hb.2⟩) _ _ _ ?_
    rw [ExAt]
    have S := hst [Value.int .i64 kd, Value.bool nn, Value.slice b1 xs.length d1, Value.bool m, Value.slice b2 ys.length d2, Value.string nm, Value.int .i64 p, Value.int .i64 q, Value.slice b ks.length d] (j * 9)
    have hR : Rec (W.setCells g (j * 9) [Value.int .i64 kd, Value.bool nn, Value.slice b1 xs.length d1, Value.bool m, Value.slice b2 ys.length d2, Value.string nm, Value.int .i64 p, Value.int .i64 q, Value.slice b ks.length d]) (fun k => g < k ∧ k < W.heap.size) g (j * 9) [.i kd, .b nn, .l xs, .b m, .l ys, .t nm, .i p, .i q] ∧ (W.setCells g (j * 9) [Value.int .i64 kd, Value.bool nn, Value.slice b1 xs.length d1, Value.bool m, Value.slice b2 ys.length d2, Value.string nm, Value.int .i64 p, Value.int .i64 q, Value.slice b ks.length d]).cell? ⟨g, j * 9 + 8, none⟩ = some (Value.slice b ks.length d) := by
      have hin := fun i (hi : i < 9) => World.cell?_setCells_in g [Value.int .i64 kd, Value.bool nn, Value.slice b1 xs.length d1, Value.bool m, Value.slice b2 ys.length d2, Value.string nm, Value.int .i64 p, Value.int .i64 q, Value.slice b ks.length d] (j * 9) W (fun i hi => by obtain ⟨v, e, _⟩ := hcell i hi; rw [e]; rfl) i hi
      exact ⟨⟨hin 0 (by omega), hin 1 (by omega), ⟨b1, d1, hin 2 (by omega), s1.st S (fun q e => by have := x1 q e; omega), x1⟩, hin 3 (by omega), ⟨b2, d2, hin 4 (by omega), s2.st S (fun q e => by have := x2 q e; omega), x2⟩, hin 5 (by omega), hin 6 (by omega), hin 7 (by omega), trivial⟩, hin 8 (by omega)⟩
    have s3' := s3.st S (fun k hk => by have : g < k := hk.1; omega)
    refine ⟨hR.1, hw, b, d, hR.2, ⟨s3.2.1, s3.2.2.1⟩, s3.2.2.2.1, ?_⟩
    rcases s3'.2.2.2.2 with h6 | h6
    · exact .inl (List.eq_nil_of_length_eq_zero h6)
    · exact .inr h6
  · exact ExAt.mono (fun b hb => ⟨hb.1, by rw [(hst _ _).size]; exact hb.2⟩) _ _ _ (ExAt.stG (h2 j hj (by omega)) (fun k hk => by have : g < k := hk.1; omega) (k * 9) _ (by simp; omega))


set_option maxHeartbeats 8000000 in
set_option maxRecDepth 20000 in
theorem toExS (aa : Option Addr) (nn cap : Nat) (X : Nat → Prop) (rs : List Ex) (w : World) (hs : KSeg w X aa nn cap rs) (IH : ∀ r ∈ rs, ToC r) (ht : ksz rs ≤ 1048576) :
    Calls Tryz.prog 16 #[.slice aa nn cap] w fun e w' => ∃ b, e = .returned (.slice b nn nn) ∧ KSeg w' (fun k => w.heap.size ≤ k ∧ k < w'.heap.size) b nn nn rs ∧ Below w.heap.size w w' := by
  obtain ⟨i0, hi, hz0, hz1, hz2⟩ := info_parts Tryz.infoEx
  have hxl := hs.1
  have hcap := hs.2.1
  have hcm := hs.2.2.1
  have hn : nn ≤ 1048576 := by have := ksz_len rs; omega
  have HS := hide hs
  clear hs
  go_enter Tryz.func16, Tryz.ntmps16
  go_wp2_with (at_make; refine wpList_make_full _ rfl _ _ 35 rfl w.heap.size 37 i0 (.agg #[Value.int .i64 0, Value.bool false, Value.slice none 0 0, Value.bool false, Value.slice none 0 0, Value.string ⟨#[]⟩, Value.int .i64 0, Value.int .i64 0, Value.slice none 0 0]) 9 Tryz.underlying35 hi hz0 hz1 _ _ _ _ nn rfl rfl rfl rfl (by rw [hz2]; omega) (by unfold maxLen; omega) (Nat.le_refl _) ?_)
  intro w1 hown hgrow
  have hb1 : Below w.heap.size w w1 := (Below.refl _ _).grown hgrow (Nat.le_refl _) (by simp)
  have HO := hide hown
  have HB1 := hide hb1
  clear hown hgrow hb1
  go_wp2
  go_loopw [4] (fun i wr => ∃ (k : Nat), k ≤ nn ∧ i = .int .i64 k ∧ Hid (KMade wr w.heap.size w.heap.size nn k rs) ∧ Hid (Below w.heap.size w wr)) (fun i _ => nn - (intOf i).toNat)
  case atStart => exact ⟨0, Nat.zero_le _, rfl, hide ⟨Nat.le_refl _, ⟨_, HO.out⟩, fun j _ h => absurd h (Nat.not_lt_zero _)⟩, HB1⟩
  case round =>
    clear HO HB1
    obtain ⟨k, hk, rfl, hm, hb⟩ := hrel
    by_cases hlt : k < nn
    · have hlt' : (k : Int) < (nn : Int) := by omega
      have hkx : k < rs.length := by omega
      obtain ⟨g, o, rfl, hg, _, hrec⟩ := (HS.out.below hb.out).at hkx
      have HC := hide (IH rs[k] (List.getElem_mem _))
      have HT := hide (Nat.le_trans (ksz_mem (List.getElem_mem hkx)) ht)
      obtain ⟨r, er⟩ : ∃ r, rs[k] = r := ⟨_, rfl⟩
      rw [er] at hrec HC HT
      have ER := hide er
      clear er
      obtain ⟨kd, n, xs, m, ys, nm, p, q, ks⟩ := r
      have HW := hide (openEx' hrec)
      obtain ⟨a1, c1, a2, c2, a, c, t0, t1, t2, t3, t4, t5, t6, t7, t8, sg1, sg2, sg3, sgn⟩ := openEx hrec
      have H1 := hide sg1
      have H2 := hide sg2
      have H3 := hide sg3
      clear sg1 sg2 sg3
      go_wp2_with fail
      refine (HC.out kd n xs m ys nm p q ks rfl X a1 c1 a2 c2 a c wr H1.out H2.out H3.out (by have := HT.out; omega)).mono ?_
      rintro e w2 ⟨b1, d1, b2, d2, b, rfl, ho1, ho2, ho3, hb2⟩
      have O1 := hide ho1
      have O2 := hide ho2
      have O3 := hide ho3
      have hbb := hide (bl_trans hb.out hb2)
      have hmm := hide (hm.out.below hb2)
      have hgr := KMade.lt hm.out
      have hgr2 := KMade.lt hmm.out
      clear hb2 ho1 ho2 ho3 t0 t1 t2 t3 t4 t5 t6 t7 t8
      obtain ⟨v0, D0, F0⟩ := KMade.cellAt hmm.out 0 hlt (by omega)
      obtain ⟨v1, D1, F1⟩ := KMade.cellAt hmm.out 1 hlt (by omega)
      obtain ⟨v2, D2, F2⟩ := KMade.cellAt hmm.out 2 hlt (by omega)
      obtain ⟨v3, D3, F3⟩ := KMade.cellAt hmm.out 3 hlt (by omega)
      obtain ⟨v4, D4, F4⟩ := KMade.cellAt hmm.out 4 hlt (by omega)
      obtain ⟨v5, D5, F5⟩ := KMade.cellAt hmm.out 5 hlt (by omega)
      obtain ⟨v6, D6, F6⟩ := KMade.cellAt hmm.out 6 hlt (by omega)
      obtain ⟨v7, D7, F7⟩ := KMade.cellAt hmm.out 7 hlt (by omega)
      obtain ⟨v8, D8, F8⟩ := KMade.cellAt hmm.out 8 hlt (by omega)
      rw [Nat.add_zero] at D0 F0
      go_wp2
      have hput := KMade.put hmm.out hlt kd n xs m ys nm p q ks ER.out HW.out b1 d1 b2 d2 b ks.length O1.out.seg O2.out.seg (fun q e => ⟨Nat.lt_of_lt_of_le hgr (O1.out.inb q e), own_lt O1.out q e⟩) (fun q e => ⟨Nat.lt_of_lt_of_le hgr (O2.out.inb q e), own_lt O2.out q e⟩) (O3.out.mono (fun k hk => ⟨Nat.lt_of_lt_of_le hgr hk.1, hk.2⟩))
      have hst := st_cells w.heap.size [Value.int .i64 kd, Value.bool n, Value.slice b1 xs.length d1, Value.bool m, Value.slice b2 ys.length d2, Value.string nm, Value.int .i64 p, Value.int .i64 q, Value.slice b ks.length ks.length] (k * 9) _ _ (St.refl _ w2)
      simp only [World.setCells, Nat.add_assoc, Nat.reduceAdd] at hput hst
      exact ⟨⟨k + 1, by omega, by go_num, hide hput, hide (St.below hbb.out hst (Nat.le_refl _))⟩, by simp [intOf]; omega⟩
    · obtain rfl : k = nn := by omega
      go_wp2
      go_ret
      exact ⟨_, rfl, KMade.seg hm.out hxl (by omega), hb.out⟩


set_option maxHeartbeats 8000000 in
set_option maxRecDepth 20000 in
theorem toEx : ∀ (N : Nat) (e : Ex), e.cnt ≤ N → ToC e
  | 0, e, h => by rw [cnt_ks] at h; omega
  | N + 1, .mk kd n xs m ys nm p q ks, h => by
    rw [cnt_ks] at h
    have IH : ∀ r ∈ ks, ToC r := fun r hr => toEx N r (by have := kcnt_mem hr; have h2 : 1 + kcnt ks ≤ N + 1 := h; omega)
    clear h
    intro kd' n' xs' m' ys' nm' p' q' ks' heq X a1 c1 a2 c2 a c w s1 s2 s3 ht
    cases heq
    have S1 := hide s1
    have S2 := hide s2
    have S3 := hide s3
    have ht' : xs.length + ys.length + nm.size + ksz ks ≤ 1048576 := by rw [Ex.sz] at ht; exact ht
    clear s1 s2 s3 ht
    have Xa : Hid ((((w.alloc (Obj.cells #[Value.int .i64 kd, Value.bool n, Value.slice a1 xs.length c1, Value.bool m, Value.slice a2 ys.length c2, Value.string nm, Value.int .i64 p, Value.int .i64 q, Value.slice a ks.length c] 29)).alloc (Obj.cells #[Value.int .i64 0, Value.bool false, Value.slice none 0 0, Value.bool false, Value.slice none 0 0, Value.string ⟨#[]⟩, Value.int .i64 0, Value.int .i64 0, Value.slice none 0 0] 37)).alloc (Obj.cells #[Value.int .i64 kd, Value.bool false, Value.slice none 0 0, Value.bool false, Value.slice none 0 0, Value.string ⟨#[]⟩, Value.int .i64 0, Value.int .i64 0, Value.slice none 0 0] 37)).heap[w.heap.size]? = some (.cells #[Value.int .i64 kd, Value.bool n, Value.slice a1 xs.length c1, Value.bool m, Value.slice a2 ys.length c2, Value.string nm, Value.int .i64 p, Value.int .i64 q, Value.slice a ks.length c] 29 (0, 0))) := hide (by simpa only [World.size_alloc] using (hnewer (hnewer (hnew w (Obj.cells #[Value.int .i64 kd, Value.bool n, Value.slice a1 xs.length c1, Value.bool m, Value.slice a2 ys.length c2, Value.string nm, Value.int .i64 p, Value.int .i64 q, Value.slice a ks.length c] 29)) (Obj.cells #[Value.int .i64 0, Value.bool false, Value.slice none 0 0, Value.bool false, Value.slice none 0 0, Value.string ⟨#[]⟩, Value.int .i64 0, Value.int .i64 0, Value.slice none 0 0] 37)) (Obj.cells #[Value.int .i64 kd, Value.bool false, Value.slice none 0 0, Value.bool false, Value.slice none 0 0, Value.string ⟨#[]⟩, Value.int .i64 0, Value.int .i64 0, Value.slice none 0 0] 37)))
    have Xr : Hid ((((w.alloc (Obj.cells #[Value.int .i64 kd, Value.bool n, Value.slice a1 xs.length c1, Value.bool m, Value.slice a2 ys.length c2, Value.string nm, Value.int .i64 p, Value.int .i64 q, Value.slice a ks.length c] 29)).alloc (Obj.cells #[Value.int .i64 0, Value.bool false, Value.slice none 0 0, Value.bool false, Value.slice none 0 0, Value.string ⟨#[]⟩, Value.int .i64 0, Value.int .i64 0, Value.slice none 0 0] 37)).alloc (Obj.cells #[Value.int .i64 kd, Value.bool false, Value.slice none 0 0, Value.bool false, Value.slice none 0 0, Value.string ⟨#[]⟩, Value.int .i64 0, Value.int .i64 0, Value.slice none 0 0] 37)).heap[w.heap.size + 1]? = some (.cells #[Value.int .i64 0, Value.bool false, Value.slice none 0 0, Value.bool false, Value.slice none 0 0, Value.string ⟨#[]⟩, Value.int .i64 0, Value.int .i64 0, Value.slice none 0 0] 37 (0, 0))) := hide (by simpa only [World.size_alloc] using (hnewer (hnew (w.alloc (Obj.cells #[Value.int .i64 kd, Value.bool n, Value.slice a1 xs.length c1, Value.bool m, Value.slice a2 ys.length c2, Value.string nm, Value.int .i64 p, Value.int .i64 q, Value.slice a ks.length c] 29)) (Obj.cells #[Value.int .i64 0, Value.bool false, Value.slice none 0 0, Value.bool false, Value.slice none 0 0, Value.string ⟨#[]⟩, Value.int .i64 0, Value.int .i64 0, Value.slice none 0 0] 37)) (Obj.cells #[Value.int .i64 kd, Value.bool false, Value.slice none 0 0, Value.bool false, Value.slice none 0 0, Value.string ⟨#[]⟩, Value.int .i64 0, Value.int .i64 0, Value.slice none 0 0] 37)))
    have Xo : Hid ((((w.alloc (Obj.cells #[Value.int .i64 kd, Value.bool n, Value.slice a1 xs.length c1, Value.bool m, Value.slice a2 ys.length c2, Value.string nm, Value.int .i64 p, Value.int .i64 q, Value.slice a ks.length c] 29)).alloc (Obj.cells #[Value.int .i64 0, Value.bool false, Value.slice none 0 0, Value.bool false, Value.slice none 0 0, Value.string ⟨#[]⟩, Value.int .i64 0, Value.int .i64 0, Value.slice none 0 0] 37)).alloc (Obj.cells #[Value.int .i64 kd, Value.bool false, Value.slice none 0 0, Value.bool false, Value.slice none 0 0, Value.string ⟨#[]⟩, Value.int .i64 0, Value.int .i64 0, Value.slice none 0 0] 37)).heap[w.heap.size + 1 + 1]? = some (.cells #[Value.int .i64 kd, Value.bool false, Value.slice none 0 0, Value.bool false, Value.slice none 0 0, Value.string ⟨#[]⟩, Value.int .i64 0, Value.int .i64 0, Value.slice none 0 0] 37 (0, 0))) := hide (by simpa only [World.size_alloc] using (hnew ((w.alloc (Obj.cells #[Value.int .i64 kd, Value.bool n, Value.slice a1 xs.length c1, Value.bool m, Value.slice a2 ys.length c2, Value.string nm, Value.int .i64 p, Value.int .i64 q, Value.slice a ks.length c] 29)).alloc (Obj.cells #[Value.int .i64 0, Value.bool false, Value.slice none 0 0, Value.bool false, Value.slice none 0 0, Value.string ⟨#[]⟩, Value.int .i64 0, Value.int .i64 0, Value.slice none 0 0] 37)) (Obj.cells #[Value.int .i64 kd, Value.bool false, Value.slice none 0 0, Value.bool false, Value.slice none 0 0, Value.string ⟨#[]⟩, Value.int .i64 0, Value.int .i64 0, Value.slice none 0 0] 37)))
    have HB : Hid (Below w.heap.size w (((w.alloc (Obj.cells #[Value.int .i64 kd, Value.bool n, Value.slice a1 xs.length c1, Value.bool m, Value.slice a2 ys.length c2, Value.string nm, Value.int .i64 p, Value.int .i64 q, Value.slice a ks.length c] 29)).alloc (Obj.cells #[Value.int .i64 0, Value.bool false, Value.slice none 0 0, Value.bool false, Value.slice none 0 0, Value.string ⟨#[]⟩, Value.int .i64 0, Value.int .i64 0, Value.slice none 0 0] 37)).alloc (Obj.cells #[Value.int .i64 kd, Value.bool false, Value.slice none 0 0, Value.bool false, Value.slice none 0 0, Value.string ⟨#[]⟩, Value.int .i64 0, Value.int .i64 0, Value.slice none 0 0] 37))) := hide (bl_alloc (bl_alloc (bl_alloc (bl_refl w) (Obj.cells #[Value.int .i64 kd, Value.bool n, Value.slice a1 xs.length c1, Value.bool m, Value.slice a2 ys.length c2, Value.string nm, Value.int .i64 p, Value.int .i64 q, Value.slice a ks.length c] 29)) (Obj.cells #[Value.int .i64 0, Value.bool false, Value.slice none 0 0, Value.bool false, Value.slice none 0 0, Value.string ⟨#[]⟩, Value.int .i64 0, Value.int .i64 0, Value.slice none 0 0] 37)) (Obj.cells #[Value.int .i64 kd, Value.bool false, Value.slice none 0 0, Value.bool false, Value.slice none 0 0, Value.string ⟨#[]⟩, Value.int .i64 0, Value.int .i64 0, Value.slice none 0 0] 37))
    have yw1 : w.heap.size + 3 ≤ (((w.alloc (Obj.cells #[Value.int .i64 kd, Value.bool n, Value.slice a1 xs.length c1, Value.bool m, Value.slice a2 ys.length c2, Value.string nm, Value.int .i64 p, Value.int .i64 q, Value.slice a ks.length c] 29)).alloc (Obj.cells #[Value.int .i64 0, Value.bool false, Value.slice none 0 0, Value.bool false, Value.slice none 0 0, Value.string ⟨#[]⟩, Value.int .i64 0, Value.int .i64 0, Value.slice none 0 0] 37)).alloc (Obj.cells #[Value.int .i64 kd, Value.bool false, Value.slice none 0 0, Value.bool false, Value.slice none 0 0, Value.string ⟨#[]⟩, Value.int .i64 0, Value.int .i64 0, Value.slice none 0 0] 37)).heap.size := by simp only [World.size_alloc]; omega
    have ka0 : (((w.alloc (Obj.cells #[Value.int .i64 kd, Value.bool n, Value.slice a1 xs.length c1, Value.bool m, Value.slice a2 ys.length c2, Value.string nm, Value.int .i64 p, Value.int .i64 q, Value.slice a ks.length c] 29)).alloc (Obj.cells #[Value.int .i64 0, Value.bool false, Value.slice none 0 0, Value.bool false, Value.slice none 0 0, Value.string ⟨#[]⟩, Value.int .i64 0, Value.int .i64 0, Value.slice none 0 0] 37)).alloc (Obj.cells #[Value.int .i64 kd, Value.bool false, Value.slice none 0 0, Value.bool false, Value.slice none 0 0, Value.string ⟨#[]⟩, Value.int .i64 0, Value.int .i64 0, Value.slice none 0 0] 37)).cell? ⟨w.heap.size, 0, none⟩ = some (Value.int .i64 kd) := (Lib.cell_of_heap Xa.out 0).trans rfl
    have fa0 : (((w.alloc (Obj.cells #[Value.int .i64 kd, Value.bool n, Value.slice a1 xs.length c1, Value.bool m, Value.slice a2 ys.length c2, Value.string nm, Value.int .i64 p, Value.int .i64 q, Value.slice a ks.length c] 29)).alloc (Obj.cells #[Value.int .i64 0, Value.bool false, Value.slice none 0 0, Value.bool false, Value.slice none 0 0, Value.string ⟨#[]⟩, Value.int .i64 0, Value.int .i64 0, Value.slice none 0 0] 37)).alloc (Obj.cells #[Value.int .i64 kd, Value.bool false, Value.slice none 0 0, Value.bool false, Value.slice none 0 0, Value.string ⟨#[]⟩, Value.int .i64 0, Value.int .i64 0, Value.slice none 0 0] 37)).frozen? ⟨w.heap.size, 0, none⟩ = false := Lib.frozen_of_heap Xa.out 0
    have ka1 : (((w.alloc (Obj.cells #[Value.int .i64 kd, Value.bool n, Value.slice a1 xs.length c1, Value.bool m, Value.slice a2 ys.length c2, Value.string nm, Value.int .i64 p, Value.int .i64 q, Value.slice a ks.length c] 29)).alloc (Obj.cells #[Value.int .i64 0, Value.bool false, Value.slice none 0 0, Value.bool false, Value.slice none 0 0, Value.string ⟨#[]⟩, Value.int .i64 0, Value.int .i64 0, Value.slice none 0 0] 37)).alloc (Obj.cells #[Value.int .i64 kd, Value.bool false, Value.slice none 0 0, Value.bool false, Value.slice none 0 0, Value.string ⟨#[]⟩, Value.int .i64 0, Value.int .i64 0, Value.slice none 0 0] 37)).cell? ⟨w.heap.size, 1, none⟩ = some (Value.bool n) := (Lib.cell_of_heap Xa.out 1).trans rfl
    have fa1 : (((w.alloc (Obj.cells #[Value.int .i64 kd, Value.bool n, Value.slice a1 xs.length c1, Value.bool m, Value.slice a2 ys.length c2, Value.string nm, Value.int .i64 p, Value.int .i64 q, Value.slice a ks.length c] 29)).alloc (Obj.cells #[Value.int .i64 0, Value.bool false, Value.slice none 0 0, Value.bool false, Value.slice none 0 0, Value.string ⟨#[]⟩, Value.int .i64 0, Value.int .i64 0, Value.slice none 0 0] 37)).alloc (Obj.cells #[Value.int .i64 kd, Value.bool false, Value.slice none 0 0, Value.bool false, Value.slice none 0 0, Value.string ⟨#[]⟩, Value.int .i64 0, Value.int .i64 0, Value.slice none 0 0] 37)).frozen? ⟨w.heap.size, 1, none⟩ = false := Lib.frozen_of_heap Xa.out 1
    have ka2 : (((w.alloc (Obj.cells #[Value.int .i64 kd, Value.bool n, Value.slice a1 xs.length c1, Value.bool m, Value.slice a2 ys.length c2, Value.string nm, Value.int .i64 p, Value.int .i64 q, Value.slice a ks.length c] 29)).alloc (Obj.cells #[Value.int .i64 0, Value.bool false, Value.slice none 0 0, Value.bool false, Value.slice none 0 0, Value.string ⟨#[]⟩, Value.int .i64 0, Value.int .i64 0, Value.slice none 0 0] 37)).alloc (Obj.cells #[Value.int .i64 kd, Value.bool false, Value.slice none 0 0, Value.bool false, Value.slice none 0 0, Value.string ⟨#[]⟩, Value.int .i64 0, Value.int .i64 0, Value.slice none 0 0] 37)).cell? ⟨w.heap.size, 2, none⟩ = some (Value.slice a1 xs.length c1) := (Lib.cell_of_heap Xa.out 2).trans rfl
    have fa2 : (((w.alloc (Obj.cells #[Value.int .i64 kd, Value.bool n, Value.slice a1 xs.length c1, Value.bool m, Value.slice a2 ys.length c2, Value.string nm, Value.int .i64 p, Value.int .i64 q, Value.slice a ks.length c] 29)).alloc (Obj.cells #[Value.int .i64 0, Value.bool false, Value.slice none 0 0, Value.bool false, Value.slice none 0 0, Value.string ⟨#[]⟩, Value.int .i64 0, Value.int .i64 0, Value.slice none 0 0] 37)).alloc (Obj.cells #[Value.int .i64 kd, Value.bool false, Value.slice none 0 0, Value.bool false, Value.slice none 0 0, Value.string ⟨#[]⟩, Value.int .i64 0, Value.int .i64 0, Value.slice none 0 0] 37)).frozen? ⟨w.heap.size, 2, none⟩ = false := Lib.frozen_of_heap Xa.out 2
    have ka3 : (((w.alloc (Obj.cells #[Value.int .i64 kd, Value.bool n, Value.slice a1 xs.length c1, Value.bool m, Value.slice a2 ys.length c2, Value.string nm, Value.int .i64 p, Value.int .i64 q, Value.slice a ks.length c] 29)).alloc (Obj.cells #[Value.int .i64 0, Value.bool false, Value.slice none 0 0, Value.bool false, Value.slice none 0 0, Value.string ⟨#[]⟩, Value.int .i64 0, Value.int .i64 0, Value.slice none 0 0] 37)).alloc (Obj.cells #[Value.int .i64 kd, Value.bool false, Value.slice none 0 0, Value.bool false, Value.slice none 0 0, Value.string ⟨#[]⟩, Value.int .i64 0, Value.int .i64 0, Value.slice none 0 0] 37)).cell? ⟨w.heap.size, 3, none⟩ = some (Value.bool m) := (Lib.cell_of_heap Xa.out 3).trans rfl
    have fa3 : (((w.alloc (Obj.cells #[Value.int .i64 kd, Value.bool n, Value.slice a1 xs.length c1, Value.bool m, Value.slice a2 ys.length c2, Value.string nm, Value.int .i64 p, Value.int .i64 q, Value.slice a ks.length c] 29)).alloc (Obj.cells #[Value.int .i64 0, Value.bool false, Value.slice none 0 0, Value.bool false, Value.slice none 0 0, Value.string ⟨#[]⟩, Value.int .i64 0, Value.int .i64 0, Value.slice none 0 0] 37)).alloc (Obj.cells #[Value.int .i64 kd, Value.bool false, Value.slice none 0 0, Value.bool false, Value.slice none 0 0, Value.string ⟨#[]⟩, Value.int .i64 0, Value.int .i64 0, Value.slice none 0 0] 37)).frozen? ⟨w.heap.size, 3, none⟩ = false := Lib.frozen_of_heap Xa.out 3
    have ka4 : (((w.alloc (Obj.cells #[Value.int .i64 kd, Value.bool n, Value.slice a1 xs.length c1, Value.bool m, Value.slice a2 ys.length c2, Value.string nm, Value.int .i64 p, Value.int .i64 q, Value.slice a ks.length c] 29)).alloc (Obj.cells #[Value.int .i64 0, Value.bool false, Value.slice none 0 0, Value.bool false, Value.slice none 0 0, Value.string ⟨#[]⟩, Value.int .i64 0, Value.int .i64 0, Value.slice none 0 0] 37)).alloc (Obj.cells #[Value.int .i64 kd, Value.bool false, Value.slice none 0 0, Value.bool false, Value.slice none 0 0, Value.string ⟨#[]⟩, Value.int .i64 0, Value.int .i64 0, Value.slice none 0 0] 37)).cell? ⟨w.heap.size, 4, none⟩ = some (Value.slice a2 ys.length c2) := (Lib.cell_of_heap Xa.out 4).trans rfl
    have fa4 : (((w.alloc (Obj.cells #[Value.int .i64 kd, Value.bool n, Value.slice a1 xs.length c1, Value.bool m, Value.slice a2 ys.length c2, Value.string nm, Value.int .i64 p, Value.int .i64 q, Value.slice a ks.length c] 29)).alloc (Obj.cells #[Value.int .i64 0, Value.bool false, Value.slice none 0 0, Value.bool false, Value.slice none 0 0, Value.string ⟨#[]⟩, Value.int .i64 0, Value.int .i64 0, Value.slice none 0 0] 37)).alloc (Obj.cells #[Value.int .i64 kd, Value.bool false, Value.slice none 0 0, Value.bool false, Value.slice none 0 0, Value.string ⟨#[]⟩, Value.int .i64 0, Value.int .i64 0, Value.slice none 0 0] 37)).frozen? ⟨w.heap.size, 4, none⟩ = false := Lib.frozen_of_heap Xa.out 4
    have ka5 : (((w.alloc (Obj.cells #[Value.int .i64 kd, Value.bool n, Value.slice a1 xs.length c1, Value.bool m, Value.slice a2 ys.length c2, Value.string nm, Value.int .i64 p, Value.int .i64 q, Value.slice a ks.length c] 29)).alloc (Obj.cells #[Value.int .i64 0, Value.bool false, Value.slice none 0 0, Value.bool false, Value.slice none 0 0, Value.string ⟨#[]⟩, Value.int .i64 0, Value.int .i64 0, Value.slice none 0 0] 37)).alloc (Obj.cells #[Value.int .i64 kd, Value.bool false, Value.slice none 0 0, Value.bool false, Value.slice none 0 0, Value.string ⟨#[]⟩, Value.int .i64 0, Value.int .i64 0, Value.slice none 0 0] 37)).cell? ⟨w.heap.size, 5, none⟩ = some (Value.string nm) := (Lib.cell_of_heap Xa.out 5).trans rfl
    have fa5 : (((w.alloc (Obj.cells #[Value.int .i64 kd, Value.bool n, Value.slice a1 xs.length c1, Value.bool m, Value.slice a2 ys.length c2, Value.string nm, Value.int .i64 p, Value.int .i64 q, Value.slice a ks.length c] 29)).alloc (Obj.cells #[Value.int .i64 0, Value.bool false, Value.slice none 0 0, Value.bool false, Value.slice none 0 0, Value.string ⟨#[]⟩, Value.int .i64 0, Value.int .i64 0, Value.slice none 0 0] 37)).alloc (Obj.cells #[Value.int .i64 kd, Value.bool false, Value.slice none 0 0, Value.bool false, Value.slice none 0 0, Value.string ⟨#[]⟩, Value.int .i64 0, Value.int .i64 0, Value.slice none 0 0] 37)).frozen? ⟨w.heap.size, 5, none⟩ = false := Lib.frozen_of_heap Xa.out 5
    have ka6 : (((w.alloc (Obj.cells #[Value.int .i64 kd, Value.bool n, Value.slice a1 xs.length c1, Value.bool m, Value.slice a2 ys.length c2, Value.string nm, Value.int .i64 p, Value.int .i64 q, Value.slice a ks.length c] 29)).alloc (Obj.cells #[Value.int .i64 0, Value.bool false, Value.slice none 0 0, Value.bool false, Value.slice none 0 0, Value.string ⟨#[]⟩, Value.int .i64 0, Value.int .i64 0, Value.slice none 0 0] 37)).alloc (Obj.cells #[Value.int .i64 kd, Value.bool false, Value.slice none 0 0, Value.bool false, Value.slice none 0 0, Value.string ⟨#[]⟩, Value.int .i64 0, Value.int .i64 0, Value.slice none 0 0] 37)).cell? ⟨w.heap.size, 6, none⟩ = some (Value.int .i64 p) := (Lib.cell_of_heap Xa.out 6).trans rfl
    have fa6 : (((w.alloc (Obj.cells #[Value.int .i64 kd, Value.bool n, Value.slice a1 xs.length c1, Value.bool m, Value.slice a2 ys.length c2, Value.string nm, Value.int .i64 p, Value.int .i64 q, Value.slice a ks.length c] 29)).alloc (Obj.cells #[Value.int .i64 0, Value.bool false, Value.slice none 0 0, Value.bool false, Value.slice none 0 0, Value.string ⟨#[]⟩, Value.int .i64 0, Value.int .i64 0, Value.slice none 0 0] 37)).alloc (Obj.cells #[Value.int .i64 kd, Value.bool false, Value.slice none 0 0, Value.bool false, Value.slice none 0 0, Value.string ⟨#[]⟩, Value.int .i64 0, Value.int .i64 0, Value.slice none 0 0] 37)).frozen? ⟨w.heap.size, 6, none⟩ = false := Lib.frozen_of_heap Xa.out 6
    have ka7 : (((w.alloc (Obj.cells #[Value.int .i64 kd, Value.bool n, Value.slice a1 xs.length c1, Value.bool m, Value.slice a2 ys.length c2, Value.string nm, Value.int .i64 p, Value.int .i64 q, Value.slice a ks.length c] 29)).alloc (Obj.cells #[Value.int .i64 0, Value.bool false, Value.slice none 0 0, Value.bool false, Value.slice none 0 0, Value.string ⟨#[]⟩, Value.int .i64 0, Value.int .i64 0, Value.slice none 0 0] 37)).alloc (Obj.cells #[Value.int .i64 kd, Value.bool false, Value.slice none 0 0, Value.bool false, Value.slice none 0 0, Value.string ⟨#[]⟩, Value.int .i64 0, Value.int .i64 0, Value.slice none 0 0] 37)).cell? ⟨w.heap.size, 7, none⟩ = some (Value.int .i64 q) := (Lib.cell_of_heap Xa.out 7).trans rfl
    have fa7 : (((w.alloc (Obj.cells #[Value.int .i64 kd, Value.bool n, Value.slice a1 xs.length c1, Value.bool m, Value.slice a2 ys.length c2, Value.string nm, Value.int .i64 p, Value.int .i64 q, Value.slice a ks.length c] 29)).alloc (Obj.cells #[Value.int .i64 0, Value.bool false, Value.slice none 0 0, Value.bool false, Value.slice none 0 0, Value.string ⟨#[]⟩, Value.int .i64 0, Value.int .i64 0, Value.slice none 0 0] 37)).alloc (Obj.cells #[Value.int .i64 kd, Value.bool false, Value.slice none 0 0, Value.bool false, Value.slice none 0 0, Value.string ⟨#[]⟩, Value.int .i64 0, Value.int .i64 0, Value.slice none 0 0] 37)).frozen? ⟨w.heap.size, 7, none⟩ = false := Lib.frozen_of_heap Xa.out 7
    have ka8 : (((w.alloc (Obj.cells #[Value.int .i64 kd, Value.bool n, Value.slice a1 xs.length c1, Value.bool m, Value.slice a2 ys.length c2, Value.string nm, Value.int .i64 p, Value.int .i64 q, Value.slice a ks.length c] 29)).alloc (Obj.cells #[Value.int .i64 0, Value.bool false, Value.slice none 0 0, Value.bool false, Value.slice none 0 0, Value.string ⟨#[]⟩, Value.int .i64 0, Value.int .i64 0, Value.slice none 0 0] 37)).alloc (Obj.cells #[Value.int .i64 kd, Value.bool false, Value.slice none 0 0, Value.bool false, Value.slice none 0 0, Value.string ⟨#[]⟩, Value.int .i64 0, Value.int .i64 0, Value.slice none 0 0] 37)).cell? ⟨w.heap.size, 8, none⟩ = some (Value.slice a ks.length c) := (Lib.cell_of_heap Xa.out 8).trans rfl
    have fa8 : (((w.alloc (Obj.cells #[Value.int .i64 kd, Value.bool n, Value.slice a1 xs.length c1, Value.bool m, Value.slice a2 ys.length c2, Value.string nm, Value.int .i64 p, Value.int .i64 q, Value.slice a ks.length c] 29)).alloc (Obj.cells #[Value.int .i64 0, Value.bool false, Value.slice none 0 0, Value.bool false, Value.slice none 0 0, Value.string ⟨#[]⟩, Value.int .i64 0, Value.int .i64 0, Value.slice none 0 0] 37)).alloc (Obj.cells #[Value.int .i64 kd, Value.bool false, Value.slice none 0 0, Value.bool false, Value.slice none 0 0, Value.string ⟨#[]⟩, Value.int .i64 0, Value.int .i64 0, Value.slice none 0 0] 37)).frozen? ⟨w.heap.size, 8, none⟩ = false := Lib.frozen_of_heap Xa.out 8
    have za : w.heap.size < (((w.alloc (Obj.cells #[Value.int .i64 kd, Value.bool n, Value.slice a1 xs.length c1, Value.bool m, Value.slice a2 ys.length c2, Value.string nm, Value.int .i64 p, Value.int .i64 q, Value.slice a ks.length c] 29)).alloc (Obj.cells #[Value.int .i64 0, Value.bool false, Value.slice none 0 0, Value.bool false, Value.slice none 0 0, Value.string ⟨#[]⟩, Value.int .i64 0, Value.int .i64 0, Value.slice none 0 0] 37)).alloc (Obj.cells #[Value.int .i64 kd, Value.bool false, Value.slice none 0 0, Value.bool false, Value.slice none 0 0, Value.string ⟨#[]⟩, Value.int .i64 0, Value.int .i64 0, Value.slice none 0 0] 37)).heap.size := hlt Xa.out
    have kr0 : (((w.alloc (Obj.cells #[Value.int .i64 kd, Value.bool n, Value.slice a1 xs.length c1, Value.bool m, Value.slice a2 ys.length c2, Value.string nm, Value.int .i64 p, Value.int .i64 q, Value.slice a ks.length c] 29)).alloc (Obj.cells #[Value.int .i64 0, Value.bool false, Value.slice none 0 0, Value.bool false, Value.slice none 0 0, Value.string ⟨#[]⟩, Value.int .i64 0, Value.int .i64 0, Value.slice none 0 0] 37)).alloc (Obj.cells #[Value.int .i64 kd, Value.bool false, Value.slice none 0 0, Value.bool false, Value.slice none 0 0, Value.string ⟨#[]⟩, Value.int .i64 0, Value.int .i64 0, Value.slice none 0 0] 37)).cell? ⟨w.heap.size + 1, 0, none⟩ = some (Value.int .i64 0) := (Lib.cell_of_heap Xr.out 0).trans rfl
    have fr0 : (((w.alloc (Obj.cells #[Value.int .i64 kd, Value.bool n, Value.slice a1 xs.length c1, Value.bool m, Value.slice a2 ys.length c2, Value.string nm, Value.int .i64 p, Value.int .i64 q, Value.slice a ks.length c] 29)).alloc (Obj.cells #[Value.int .i64 0, Value.bool false, Value.slice none 0 0, Value.bool false, Value.slice none 0 0, Value.string ⟨#[]⟩, Value.int .i64 0, Value.int .i64 0, Value.slice none 0 0] 37)).alloc (Obj.cells #[Value.int .i64 kd, Value.bool false, Value.slice none 0 0, Value.bool false, Value.slice none 0 0, Value.string ⟨#[]⟩, Value.int .i64 0, Value.int .i64 0, Value.slice none 0 0] 37)).frozen? ⟨w.heap.size + 1, 0, none⟩ = false := Lib.frozen_of_heap Xr.out 0
    have kr1 : (((w.alloc (Obj.cells #[Value.int .i64 kd, Value.bool n, Value.slice a1 xs.length c1, Value.bool m, Value.slice a2 ys.length c2, Value.string nm, Value.int .i64 p, Value.int .i64 q, Value.slice a ks.length c] 29)).alloc (Obj.cells #[Value.int .i64 0, Value.bool false, Value.slice none 0 0, Value.bool false, Value.slice none 0 0, Value.string ⟨#[]⟩, Value.int .i64 0, Value.int .i64 0, Value.slice none 0 0] 37)).alloc (Obj.cells #[Value.int .i64 kd, Value.bool false, Value.slice none 0 0, Value.bool false, Value.slice none 0 0, Value.string ⟨#[]⟩, Value.int .i64 0, Value.int .i64 0, Value.slice none 0 0] 37)).cell? ⟨w.heap.size + 1, 1, none⟩ = some (Value.bool false) := (Lib.cell_of_heap Xr.out 1).trans rfl
    have fr1 : (((w.alloc (Obj.cells #[Value.int .i64 kd, Value.bool n, Value.slice a1 xs.length c1, Value.bool m, Value.slice a2 ys.length c2, Value.string nm, Value.int .i64 p, Value.int .i64 q, Value.slice a ks.length c] 29)).alloc (Obj.cells #[Value.int .i64 0, Value.bool false, Value.slice none 0 0, Value.bool false, Value.slice none 0 0, Value.string ⟨#[]⟩, Value.int .i64 0, Value.int .i64 0, Value.slice none 0 0] 37)).alloc (Obj.cells #[Value.int .i64 kd, Value.bool false, Value.slice none 0 0, Value.bool false, Value.slice none 0 0, Value.string ⟨#[]⟩, Value.int .i64 0, Value.int .i64 0, Value.slice none 0 0] 37)).frozen? ⟨w.heap.size + 1, 1, none⟩ = false := Lib.frozen_of_heap Xr.out 1
    have kr2 : (((w.alloc (Obj.cells #[Value.int .i64 kd, Value.bool n, Value.slice a1 xs.length c1, Value.bool m, Value.slice a2 ys.length c2, Value.string nm, Value.int .i64 p, Value.int .i64 q, Value.slice a ks.length c] 29)).alloc (Obj.cells #[Value.int .i64 0, Value.bool false, Value.slice none 0 0, Value.bool false, Value.slice none 0 0, Value.string ⟨#[]⟩, Value.int .i64 0, Value.int .i64 0, Value.slice none 0 0] 37)).alloc (Obj.cells #[Value.int .i64 kd, Value.bool false, Value.slice none 0 0, Value.bool false, Value.slice none 0 0, Value.string ⟨#[]⟩, Value.int .i64 0, Value.int .i64 0, Value.slice none 0 0] 37)).cell? ⟨w.heap.size + 1, 2, none⟩ = some (Value.slice none 0 0) := (Lib.cell_of_heap Xr.out 2).trans rfl
    have fr2 : (((w.alloc (Obj.cells #[Value.int .i64 kd, Value.bool n, Value.slice a1 xs.length c1, Value.bool m, Value.slice a2 ys.length c2, Value.string nm, Value.int .i64 p, Value.int .i64 q, Value.slice a ks.length c] 29)).alloc (Obj.cells #[Value.int .i64 0, Value.bool false, Value.slice none 0 0, Value.bool false, Value.slice none 0 0, Value.string ⟨#[]⟩, Value.int .i64 0, Value.int .i64 0, Value.slice none 0 0] 37)).alloc (Obj.cells #[Value.int .i64 kd, Value.bool false, Value.slice none 0 0, Value.bool false, Value.slice none 0 0, Value.string ⟨#[]⟩, Value.int .i64 0, Value.int .i64 0, Value.slice none 0 0] 37)).frozen? ⟨w.heap.size + 1, 2, none⟩ = false := Lib.frozen_of_heap Xr.out 2
    have kr3 : (((w.alloc (Obj.cells #[Value.int .i64 kd, Value.bool n, Value.slice a1 xs.length c1, Value.bool m, Value.slice a2 ys.length c2, Value.string nm, Value.int .i64 p, Value.int .i64 q, Value.slice a ks.length c] 29)).alloc (Obj.cells #[Value.int .i64 0, Value.bool false, Value.slice none 0 0, Value.bool false, Value.slice none 0 0, Value.string ⟨#[]⟩, Value.int .i64 0, Value.int .i64 0, Value.slice none 0 0] 37)).alloc (Obj.cells #[Value.int .i64 kd, Value.bool false, Value.slice none 0 0, Value.bool false, Value.slice none 0 0, Value.string ⟨#[]⟩, Value.int .i64 0, Value.int .i64 0, Value.slice none 0 0] 37)).cell? ⟨w.heap.size + 1, 3, none⟩ = some (Value.bool false) := (Lib.cell_of_heap Xr.out 3).trans rfl
    have fr3 : (((w.alloc (Obj.cells #[Value.int .i64 kd, Value.bool n, Value.slice a1 xs.length c1, Value.bool m, Value.slice a2 ys.length c2, Value.string nm, Value.int .i64 p, Value.int .i64 q, Value.slice a ks.length c] 29)).alloc (Obj.cells #[Value.int .i64 0, Value.bool false, Value.slice none 0 0, Value.bool false, Value.slice none 0 0, Value.string ⟨#[]⟩, Value.int .i64 0, Value.int .i64 0, Value.slice none 0 0] 37)).alloc (Obj.cells #[Value.int .i64 kd, Value.bool false, Value.slice none 0 0, Value.bool false, Value.slice none 0 0, Value.string ⟨#[]⟩, Value.int .i64 0, Value.int .i64 0, Value.slice none 0 0] 37)).frozen? ⟨w.heap.size + 1, 3, none⟩ = false := Lib.frozen_of_heap Xr.out 3
    have kr4 : (((w.alloc (Obj.cells #[Value.int .i64 kd, Value.bool n, Value.slice a1 xs.length c1, Value.bool m, Value.slice a2 ys.length c2, Value.string nm, Value.int .i64 p, Value.int .i64 q, Value.slice a ks.length c] 29)).alloc (Obj.cells #[Value.int .i64 0, Value.bool false, Value.slice none 0 0, Value.bool false, Value.slice none 0 0, Value.string ⟨#[]⟩, Value.int .i64 0, Value.int .i64 0, Value.slice none 0 0] 37)).alloc (Obj.cells #[Value.int .i64 kd, Value.bool false, Value.slice none 0 0, Value.bool false, Value.slice none 0 0, Value.string ⟨#[]⟩, Value.int .i64 0, Value.int .i64 0, Value.slice none 0 0] 37)).cell? ⟨w.heap.size + 1, 4, none⟩ = some (Value.slice none 0 0) := (Lib.cell_of_heap Xr.out 4).trans rfl
    have fr4 : (((w.alloc (Obj.cells #[Value.int .i64 kd, Value.bool n, Value.slice a1 xs.length c1, Value.bool m, Value.slice a2 ys.length c2, Value.string nm, Value.int .i64 p, Value.int .i64 q, Value.slice a ks.length c] 29)).alloc (Obj.cells #[Value.int .i64 0, Value.bool false, Value.slice none 0 0, Value.bool false, Value.slice none 0 0, Value.string ⟨#[]⟩, Value.int .i64 0, Value.int .i64 0, Value.slice none 0 0] 37)).alloc (Obj.cells #[Value.int .i64 kd, Value.bool false, Value.slice none 0 0, Value.bool false, Value.slice none 0 0, Value.string ⟨#[]⟩, Value.int .i64 0, Value.int .i64 0, Value.slice none 0 0] 37)).frozen? ⟨w.heap.size + 1, 4, none⟩ = false := Lib.frozen_of_heap Xr.out 4
    have kr5 : (((w.alloc (Obj.cells #[Value.int .i64 kd, Value.bool n, Value.slice a1 xs.length c1, Value.bool m, Value.slice a2 ys.length c2, Value.string nm, Value.int .i64 p, Value.int .i64 q, Value.slice a ks.length c] 29)).alloc (Obj.cells #[Value.int .i64 0, Value.bool false, Value.slice none 0 0, Value.bool false, Value.slice none 0 0, Value.string ⟨#[]⟩, Value.int .i64 0, Value.int .i64 0, Value.slice none 0 0] 37)).alloc (Obj.cells #[Value.int .i64 kd, Value.bool false, Value.slice none 0 0, Value.bool false, Value.slice none 0 0, Value.string ⟨#[]⟩, Value.int .i64 0, Value.int .i64 0, Value.slice none 0 0] 37)).cell? ⟨w.heap.size + 1, 5, none⟩ = some (Value.string ⟨#[]⟩) := (Lib.cell_of_heap Xr.out 5).trans rfl
    have fr5 : (((w.alloc (Obj.cells #[Value.int .i64 kd, Value.bool n, Value.slice a1 xs.length c1, Value.bool m, Value.slice a2 ys.length c2, Value.string nm, Value.int .i64 p, Value.int .i64 q, Value.slice a ks.length c] 29)).alloc (Obj.cells #[Value.int .i64 0, Value.bool false, Value.slice none 0 0, Value.bool false, Value.slice none 0 0, Value.string ⟨#[]⟩, Value.int .i64 0, Value.int .i64 0, Value.slice none 0 0] 37)).alloc (Obj.cells #[Value.int .i64 kd, Value.bool false, Value.slice none 0 0, Value.bool false, Value.slice none 0 0, Value.string ⟨#[]⟩, Value.int .i64 0, Value.int .i64 0, Value.slice none 0 0] 37)).frozen? ⟨w.heap.size + 1, 5, none⟩ = false := Lib.frozen_of_heap Xr.out 5
    have kr6 : (((w.alloc (Obj.cells #[Value.int .i64 kd, Value.bool n, Value.slice a1 xs.length c1, Value.bool m, Value.slice a2 ys.length c2, Value.string nm, Value.int .i64 p, Value.int .i64 q, Value.slice a ks.length c] 29)).alloc (Obj.cells #[Value.int .i64 0, Value.bool false, Value.slice none 0 0, Value.bool false, Value.slice none 0 0, Value.string ⟨#[]⟩, Value.int .i64 0, Value.int .i64 0, Value.slice none 0 0] 37)).alloc (Obj.cells #[Value.int .i64 kd, Value.bool false, Value.slice none 0 0, Value.bool false, Value.slice none 0 0, Value.string ⟨#[]⟩, Value.int .i64 0, Value.int .i64 0, Value.slice none 0 0] 37)).cell? ⟨w.heap.size + 1, 6, none⟩ = some (Value.int .i64 0) := (Lib.cell_of_heap Xr.out 6).trans rfl
    have fr6 : (((w.alloc (Obj.cells #[Value.int .i64 kd, Value.bool n, Value.slice a1 xs.length c1, Value.bool m, Value.slice a2 ys.length c2, Value.string nm, Value.int .i64 p, Value.int .i64 q, Value.slice a ks.length c] 29)).alloc (Obj.cells #[Value.int .i64 0, Value.bool false, Value.slice none 0 0, Value.bool false, Value.slice none 0 0, Value.string ⟨#[]⟩, Value.int .i64 0, Value.int .i64 0, Value.slice none 0 0] 37)).alloc (Obj.cells #[Value.int .i64 kd, Value.bool false, Value.slice none 0 0, Value.bool false, Value.slice none 0 0, Value.string ⟨#[]⟩, Value.int .i64 0, Value.int .i64 0, Value.slice none 0 0] 37)).frozen? ⟨w.heap.size + 1, 6, none⟩ = false := Lib.frozen_of_heap Xr.out 6
    have kr7 : (((w.alloc (Obj.cells #[Value.int .i64 kd, Value.bool n, Value.slice a1 xs.length c1, Value.bool m, Value.slice a2 ys.length c2, Value.string nm, Value.int .i64 p, Value.int .i64 q, Value.slice a ks.length c] 29)).alloc (Obj.cells #[Value.int .i64 0, Value.bool false, Value.slice none 0 0, Value.bool false, Value.slice none 0 0, Value.string ⟨#[]⟩, Value.int .i64 0, Value.int .i64 0, Value.slice none 0 0] 37)).alloc (Obj.cells #[Value.int .i64 kd, Value.bool false, Value.slice none 0 0, Value.bool false, Value.slice none 0 0, Value.string ⟨#[]⟩, Value.int .i64 0, Value.int .i64 0, Value.slice none 0 0] 37)).cell? ⟨w.heap.size + 1, 7, none⟩ = some (Value.int .i64 0) := (Lib.cell_of_heap Xr.out 7).trans rfl
    have fr7 : (((w.alloc (Obj.cells #[Value.int .i64 kd, Value.bool n, Value.slice a1 xs.length c1, Value.bool m, Value.slice a2 ys.length c2, Value.string nm, Value.int .i64 p, Value.int .i64 q, Value.slice a ks.length c] 29)).alloc (Obj.cells #[Value.int .i64 0, Value.bool false, Value.slice none 0 0, Value.bool false, Value.slice none 0 0, Value.string ⟨#[]⟩, Value.int .i64 0, Value.int .i64 0, Value.slice none 0 0] 37)).alloc (Obj.cells #[Value.int .i64 kd, Value.bool false, Value.slice none 0 0, Value.bool false, Value.slice none 0 0, Value.string ⟨#[]⟩, Value.int .i64 0, Value.int .i64 0, Value.slice none 0 0] 37)).frozen? ⟨w.heap.size + 1, 7, none⟩ = false := Lib.frozen_of_heap Xr.out 7
    have kr8 : (((w.alloc (Obj.cells #[Value.int .i64 kd, Value.bool n, Value.slice a1 xs.length c1, Value.bool m, Value.slice a2 ys.length c2, Value.string nm, Value.int .i64 p, Value.int .i64 q, Value.slice a ks.length c] 29)).alloc (Obj.cells #[Value.int .i64 0, Value.bool false, Value.slice none 0 0, Value.bool false, Value.slice none 0 0, Value.string ⟨#[]⟩, Value.int .i64 0, Value.int .i64 0, Value.slice none 0 0] 37)).alloc (Obj.cells #[Value.int .i64 kd, Value.bool false, Value.slice none 0 0, Value.bool false, Value.slice none 0 0, Value.string ⟨#[]⟩, Value.int .i64 0, Value.int .i64 0, Value.slice none 0 0] 37)).cell? ⟨w.heap.size + 1, 8, none⟩ = some (Value.slice none 0 0) := (Lib.cell_of_heap Xr.out 8).trans rfl
    have fr8 : (((w.alloc (Obj.cells #[Value.int .i64 kd, Value.bool n, Value.slice a1 xs.length c1, Value.bool m, Value.slice a2 ys.length c2, Value.string nm, Value.int .i64 p, Value.int .i64 q, Value.slice a ks.length c] 29)).alloc (Obj.cells #[Value.int .i64 0, Value.bool false, Value.slice none 0 0, Value.bool false, Value.slice none 0 0, Value.string ⟨#[]⟩, Value.int .i64 0, Value.int .i64 0, Value.slice none 0 0] 37)).alloc (Obj.cells #[Value.int .i64 kd, Value.bool false, Value.slice none 0 0, Value.bool false, Value.slice none 0 0, Value.string ⟨#[]⟩, Value.int .i64 0, Value.int .i64 0, Value.slice none 0 0] 37)).frozen? ⟨w.heap.size + 1, 8, none⟩ = false := Lib.frozen_of_heap Xr.out 8
    have zr : w.heap.size + 1 < (((w.alloc (Obj.cells #[Value.int .i64 kd, Value.bool n, Value.slice a1 xs.length c1, Value.bool m, Value.slice a2 ys.length c2, Value.string nm, Value.int .i64 p, Value.int .i64 q, Value.slice a ks.length c] 29)).alloc (Obj.cells #[Value.int .i64 0, Value.bool false, Value.slice none 0 0, Value.bool false, Value.slice none 0 0, Value.string ⟨#[]⟩, Value.int .i64 0, Value.int .i64 0, Value.slice none 0 0] 37)).alloc (Obj.cells #[Value.int .i64 kd, Value.bool false, Value.slice none 0 0, Value.bool false, Value.slice none 0 0, Value.string ⟨#[]⟩, Value.int .i64 0, Value.int .i64 0, Value.slice none 0 0] 37)).heap.size := hlt Xr.out
    have ko0 : (((w.alloc (Obj.cells #[Value.int .i64 kd, Value.bool n, Value.slice a1 xs.length c1, Value.bool m, Value.slice a2 ys.length c2, Value.string nm, Value.int .i64 p, Value.int .i64 q, Value.slice a ks.length c] 29)).alloc (Obj.cells #[Value.int .i64 0, Value.bool false, Value.slice none 0 0, Value.bool false, Value.slice none 0 0, Value.string ⟨#[]⟩, Value.int .i64 0, Value.int .i64 0, Value.slice none 0 0] 37)).alloc (Obj.cells #[Value.int .i64 kd, Value.bool false, Value.slice none 0 0, Value.bool false, Value.slice none 0 0, Value.string ⟨#[]⟩, Value.int .i64 0, Value.int .i64 0, Value.slice none 0 0] 37)).cell? ⟨w.heap.size + 1 + 1, 0, none⟩ = some (Value.int .i64 kd) := (Lib.cell_of_heap Xo.out 0).trans rfl
    have fo0 : (((w.alloc (Obj.cells #[Value.int .i64 kd, Value.bool n, Value.slice a1 xs.length c1, Value.bool m, Value.slice a2 ys.length c2, Value.string nm, Value.int .i64 p, Value.int .i64 q, Value.slice a ks.length c] 29)).alloc (Obj.cells #[Value.int .i64 0, Value.bool false, Value.slice none 0 0, Value.bool false, Value.slice none 0 0, Value.string ⟨#[]⟩, Value.int .i64 0, Value.int .i64 0, Value.slice none 0 0] 37)).alloc (Obj.cells #[Value.int .i64 kd, Value.bool false, Value.slice none 0 0, Value.bool false, Value.slice none 0 0, Value.string ⟨#[]⟩, Value.int .i64 0, Value.int .i64 0, Value.slice none 0 0] 37)).frozen? ⟨w.heap.size + 1 + 1, 0, none⟩ = false := Lib.frozen_of_heap Xo.out 0
    have ko1 : (((w.alloc (Obj.cells #[Value.int .i64 kd, Value.bool n, Value.slice a1 xs.length c1, Value.bool m, Value.slice a2 ys.length c2, Value.string nm, Value.int .i64 p, Value.int .i64 q, Value.slice a ks.length c] 29)).alloc (Obj.cells #[Value.int .i64 0, Value.bool false, Value.slice none 0 0, Value.bool false, Value.slice none 0 0, Value.string ⟨#[]⟩, Value.int .i64 0, Value.int .i64 0, Value.slice none 0 0] 37)).alloc (Obj.cells #[Value.int .i64 kd, Value.bool false, Value.slice none 0 0, Value.bool false, Value.slice none 0 0, Value.string ⟨#[]⟩, Value.int .i64 0, Value.int .i64 0, Value.slice none 0 0] 37)).cell? ⟨w.heap.size + 1 + 1, 1, none⟩ = some (Value.bool false) := (Lib.cell_of_heap Xo.out 1).trans rfl
    have fo1 : (((w.alloc (Obj.cells #[Value.int .i64 kd, Value.bool n, Value.slice a1 xs.length c1, Value.bool m, Value.slice a2 ys.length c2, Value.string nm, Value.int .i64 p, Value.int .i64 q, Value.slice a ks.length c] 29)).alloc (Obj.cells #[Value.int .i64 0, Value.bool false, Value.slice none 0 0, Value.bool false, Value.slice none 0 0, Value.string ⟨#[]⟩, Value.int .i64 0, Value.int .i64 0, Value.slice none 0 0] 37)).alloc (Obj.cells #[Value.int .i64 kd, Value.bool false, Value.slice none 0 0, Value.bool false, Value.slice none 0 0, Value.string ⟨#[]⟩, Value.int .i64 0, Value.int .i64 0, Value.slice none 0 0] 37)).frozen? ⟨w.heap.size + 1 + 1, 1, none⟩ = false := Lib.frozen_of_heap Xo.out 1
    have ko2 : (((w.alloc (Obj.cells #[Value.int .i64 kd, Value.bool n, Value.slice a1 xs.length c1, Value.bool m, Value.slice a2 ys.length c2, Value.string nm, Value.int .i64 p, Value.int .i64 q, Value.slice a ks.length c] 29)).alloc (Obj.cells #[Value.int .i64 0, Value.bool false, Value.slice none 0 0, Value.bool false, Value.slice none 0 0, Value.string ⟨#[]⟩, Value.int .i64 0, Value.int .i64 0, Value.slice none 0 0] 37)).alloc (Obj.cells #[Value.int .i64 kd, Value.bool false, Value.slice none 0 0, Value.bool false, Value.slice none 0 0, Value.string ⟨#[]⟩, Value.int .i64 0, Value.int .i64 0, Value.slice none 0 0] 37)).cell? ⟨w.heap.size + 1 + 1, 2, none⟩ = some (Value.slice none 0 0) := (Lib.cell_of_heap Xo.out 2).trans rfl
    have fo2 : (((w.alloc (Obj.cells #[Value.int .i64 kd, Value.bool n, Value.slice a1 xs.length c1, Value.bool m, Value.slice a2 ys.length c2, Value.string nm, Value.int .i64 p, Value.int .i64 q, Value.slice a ks.length c] 29)).alloc (Obj.cells #[Value.int .i64 0, Value.bool false, Value.slice none 0 0, Value.bool false, Value.slice none 0 0, Value.string ⟨#[]⟩, Value.int .i64 0, Value.int .i64 0, Value.slice none 0 0] 37)).alloc (Obj.cells #[Value.int .i64 kd, Value.bool false, Value.slice none 0 0, Value.bool false, Value.slice none 0 0, Value.string ⟨#[]⟩, Value.int .i64 0, Value.int .i64 0, Value.slice none 0 0] 37)).frozen? ⟨w.heap.size + 1 + 1, 2, none⟩ = false := Lib.frozen_of_heap Xo.out 2
    have ko3 : (((w.alloc (Obj.cells #[Value.int .i64 kd, Value.bool n, Value.slice a1 xs.length c1, Value.bool m, Value.slice a2 ys.length c2, Value.string nm, Value.int .i64 p, Value.int .i64 q, Value.slice a ks.length c] 29)).alloc (Obj.cells #[Value.int .i64 0, Value.bool false, Value.slice none 0 0, Value.bool false, Value.slice none 0 0, Value.string ⟨#[]⟩, Value.int .i64 0, Value.int .i64 0, Value.slice none 0 0] 37)).alloc (Obj.cells #[Value.int .i64 kd, Value.bool false, Value.slice none 0 0, Value.bool false, Value.slice none 0 0, Value.string ⟨#[]⟩, Value.int .i64 0, Value.int .i64 0, Value.slice none 0 0] 37)).cell? ⟨w.heap.size + 1 + 1, 3, none⟩ = some (Value.bool false) := (Lib.cell_of_heap Xo.out 3).trans rfl
    have fo3 : (((w.alloc (Obj.cells #[Value.int .i64 kd, Value.bool n, Value.slice a1 xs.length c1, Value.bool m, Value.slice a2 ys.length c2, Value.string nm, Value.int .i64 p, Value.int .i64 q, Value.slice a ks.length c] 29)).alloc (Obj.cells #[Value.int .i64 0, Value.bool false, Value.slice none 0 0, Value.bool false, Value.slice none 0 0, Value.string ⟨#[]⟩, Value.int .i64 0, Value.int .i64 0, Value.slice none 0 0] 37)).alloc (Obj.cells #[Value.int .i64 kd, Value.bool false, Value.slice none 0 0, Value.bool false, Value.slice none 0 0, Value.string ⟨#[]⟩, Value.int .i64 0, Value.int .i64 0, Value.slice none 0 0] 37)).frozen? ⟨w.heap.size + 1 + 1, 3, none⟩ = false := Lib.frozen_of_heap Xo.out 3
    have ko4 : (((w.alloc (Obj.cells #[Value.int .i64 kd, Value.bool n, Value.slice a1 xs.length c1, Value.bool m, Value.slice a2 ys.length c2, Value.string nm, Value.int .i64 p, Value.int .i64 q, Value.slice a ks.length c] 29)).alloc (Obj.cells #[Value.int .i64 0, Value.bool false, Value.slice none 0 0, Value.bool false, Value.slice none 0 0, Value.string ⟨#[]⟩, Value.int .i64 0, Value.int .i64 0, Value.slice none 0 0] 37)).alloc (Obj.cells #[Value.int .i64 kd, Value.bool false, Value.slice none 0 0, Value.bool false, Value.slice none 0 0, Value.string ⟨#[]⟩, Value.int .i64 0, Value.int .i64 0, Value.slice none 0 0] 37)).cell? ⟨w.heap.size + 1 + 1, 4, none⟩ = some (Value.slice none 0 0) := (Lib.cell_of_heap Xo.out 4).trans rfl
    have fo4 : (((w.alloc (Obj.cells #[Value.int .i64 kd, Value.bool n, Value.slice a1 xs.length c1, Value.bool m, Value.slice a2 ys.length c2, Value.string nm, Value.int .i64 p, Value.int .i64 q, Value.slice a ks.length c] 29)).alloc (Obj.cells #[Value.int .i64 0, Value.bool false, Value.slice none 0 0, Value.bool false, Value.slice none 0 0, Value.string ⟨#[]⟩, Value.int .i64 0, Value.int .i64 0, Value.slice none 0 0] 37)).alloc (Obj.cells #[Value.int .i64 kd, Value.bool false, Value.slice none 0 0, Value.bool false, Value.slice none 0 0, Value.string ⟨#[]⟩, Value.int .i64 0, Value.int .i64 0, Value.slice none 0 0] 37)).frozen? ⟨w.heap.size + 1 + 1, 4, none⟩ = false := Lib.frozen_of_heap Xo.out 4
    have ko5 : (((w.alloc (Obj.cells #[Value.int .i64 kd, Value.bool n, Value.slice a1 xs.length c1, Value.bool m, Value.slice a2 ys.length c2, Value.string nm, Value.int .i64 p, Value.int .i64 q, Value.slice a ks.length c] 29)).alloc (Obj.cells #[Value.int .i64 0, Value.bool false, Value.slice none 0 0, Value.bool false, Value.slice none 0 0, Value.string ⟨#[]⟩, Value.int .i64 0, Value.int .i64 0, Value.slice none 0 0] 37)).alloc (Obj.cells #[Value.int .i64 kd, Value.bool false, Value.slice none 0 0, Value.bool false, Value.slice none 0 0, Value.string ⟨#[]⟩, Value.int .i64 0, Value.int .i64 0, Value.slice none 0 0] 37)).cell? ⟨w.heap.size + 1 + 1, 5, none⟩ = some (Value.string ⟨#[]⟩) := (Lib.cell_of_heap Xo.out 5).trans rfl
    have fo5 : (((w.alloc (Obj.cells #[Value.int .i64 kd, Value.bool n, Value.slice a1 xs.length c1, Value.bool m, Value.slice a2 ys.length c2, Value.string nm, Value.int .i64 p, Value.int .i64 q, Value.slice a ks.length c] 29)).alloc (Obj.cells #[Value.int .i64 0, Value.bool false, Value.slice none 0 0, Value.bool false, Value.slice none 0 0, Value.string ⟨#[]⟩, Value.int .i64 0, Value.int .i64 0, Value.slice none 0 0] 37)).alloc (Obj.cells #[Value.int .i64 kd, Value.bool false, Value.slice none 0 0, Value.bool false, Value.slice none 0 0, Value.string ⟨#[]⟩, Value.int .i64 0, Value.int .i64 0, Value.slice none 0 0] 37)).frozen? ⟨w.heap.size + 1 + 1, 5, none⟩ = false := Lib.frozen_of_heap Xo.out 5
    have ko6 : (((w.alloc (Obj.cells #[Value.int .i64 kd, Value.bool n, Value.slice a1 xs.length c1, Value.bool m, Value.slice a2 ys.length c2, Value.string nm, Value.int .i64 p, Value.int .i64 q, Value.slice a ks.length c] 29)).alloc (Obj.cells #[Value.int .i64 0, Value.bool false, Value.slice none 0 0, Value.bool false, Value.slice none 0 0, Value.string ⟨#[]⟩, Value.int .i64 0, Value.int .i64 0, Value.slice none 0 0] 37)).alloc (Obj.cells #[Value.int .i64 kd, Value.bool false, Value.slice none 0 0, Value.bool false, Value.slice none 0 0, Value.string ⟨#[]⟩, Value.int .i64 0, Value.int .i64 0, Value.slice none 0 0] 37)).cell? ⟨w.heap.size + 1 + 1, 6, none⟩ = some (Value.int .i64 0) := (Lib.cell_of_heap Xo.out 6).trans rfl
    have fo6 : (((w.alloc (Obj.cells #[Value.int .i64 kd, Value.bool n, Value.slice a1 xs.length c1, Value.bool m, Value.slice a2 ys.length c2, Value.string nm, Value.int .i64 p, Value.int .i64 q, Value.slice a ks.length c] 29)).alloc (Obj.cells #[Value.int .i64 0, Value.bool false, Value.slice none 0 0, Value.bool false, Value.slice none 0 0, Value.string ⟨#[]⟩, Value.int .i64 0, Value.int .i64 0, Value.slice none 0 0] 37)).alloc (Obj.cells #[Value.int .i64 kd, Value.bool false, Value.slice none 0 0, Value.bool false, Value.slice none 0 0, Value.string ⟨#[]⟩, Value.int .i64 0, Value.int .i64 0, Value.slice none 0 0] 37)).frozen? ⟨w.heap.size + 1 + 1, 6, none⟩ = false := Lib.frozen_of_heap Xo.out 6
    have ko7 : (((w.alloc (Obj.cells #[Value.int .i64 kd, Value.bool n, Value.slice a1 xs.length c1, Value.bool m, Value.slice a2 ys.length c2, Value.string nm, Value.int .i64 p, Value.int .i64 q, Value.slice a ks.length c] 29)).alloc (Obj.cells #[Value.int .i64 0, Value.bool false, Value.slice none 0 0, Value.bool false, Value.slice none 0 0, Value.string ⟨#[]⟩, Value.int .i64 0, Value.int .i64 0, Value.slice none 0 0] 37)).alloc (Obj.cells #[Value.int .i64 kd, Value.bool false, Value.slice none 0 0, Value.bool false, Value.slice none 0 0, Value.string ⟨#[]⟩, Value.int .i64 0, Value.int .i64 0, Value.slice none 0 0] 37)).cell? ⟨w.heap.size + 1 + 1, 7, none⟩ = some (Value.int .i64 0) := (Lib.cell_of_heap Xo.out 7).trans rfl
    have fo7 : (((w.alloc (Obj.cells #[Value.int .i64 kd, Value.bool n, Value.slice a1 xs.length c1, Value.bool m, Value.slice a2 ys.length c2, Value.string nm, Value.int .i64 p, Value.int .i64 q, Value.slice a ks.length c] 29)).alloc (Obj.cells #[Value.int .i64 0, Value.bool false, Value.slice none 0 0, Value.bool false, Value.slice none 0 0, Value.string ⟨#[]⟩, Value.int .i64 0, Value.int .i64 0, Value.slice none 0 0] 37)).alloc (Obj.cells #[Value.int .i64 kd, Value.bool false, Value.slice none 0 0, Value.bool false, Value.slice none 0 0, Value.string ⟨#[]⟩, Value.int .i64 0, Value.int .i64 0, Value.slice none 0 0] 37)).frozen? ⟨w.heap.size + 1 + 1, 7, none⟩ = false := Lib.frozen_of_heap Xo.out 7
    have ko8 : (((w.alloc (Obj.cells #[Value.int .i64 kd, Value.bool n, Value.slice a1 xs.length c1, Value.bool m, Value.slice a2 ys.length c2, Value.string nm, Value.int .i64 p, Value.int .i64 q, Value.slice a ks.length c] 29)).alloc (Obj.cells #[Value.int .i64 0, Value.bool false, Value.slice none 0 0, Value.bool false, Value.slice none 0 0, Value.string ⟨#[]⟩, Value.int .i64 0, Value.int .i64 0, Value.slice none 0 0] 37)).alloc (Obj.cells #[Value.int .i64 kd, Value.bool false, Value.slice none 0 0, Value.bool false, Value.slice none 0 0, Value.string ⟨#[]⟩, Value.int .i64 0, Value.int .i64 0, Value.slice none 0 0] 37)).cell? ⟨w.heap.size + 1 + 1, 8, none⟩ = some (Value.slice none 0 0) := (Lib.cell_of_heap Xo.out 8).trans rfl
    have fo8 : (((w.alloc (Obj.cells #[Value.int .i64 kd, Value.bool n, Value.slice a1 xs.length c1, Value.bool m, Value.slice a2 ys.length c2, Value.string nm, Value.int .i64 p, Value.int .i64 q, Value.slice a ks.length c] 29)).alloc (Obj.cells #[Value.int .i64 0, Value.bool false, Value.slice none 0 0, Value.bool false, Value.slice none 0 0, Value.string ⟨#[]⟩, Value.int .i64 0, Value.int .i64 0, Value.slice none 0 0] 37)).alloc (Obj.cells #[Value.int .i64 kd, Value.bool false, Value.slice none 0 0, Value.bool false, Value.slice none 0 0, Value.string ⟨#[]⟩, Value.int .i64 0, Value.int .i64 0, Value.slice none 0 0] 37)).frozen? ⟨w.heap.size + 1 + 1, 8, none⟩ = false := Lib.frozen_of_heap Xo.out 8
    have zo : w.heap.size + 1 + 1 < (((w.alloc (Obj.cells #[Value.int .i64 kd, Value.bool n, Value.slice a1 xs.length c1, Value.bool m, Value.slice a2 ys.length c2, Value.string nm, Value.int .i64 p, Value.int .i64 q, Value.slice a ks.length c] 29)).alloc (Obj.cells #[Value.int .i64 0, Value.bool false, Value.slice none 0 0, Value.bool false, Value.slice none 0 0, Value.string ⟨#[]⟩, Value.int .i64 0, Value.int .i64 0, Value.slice none 0 0] 37)).alloc (Obj.cells #[Value.int .i64 kd, Value.bool false, Value.slice none 0 0, Value.bool false, Value.slice none 0 0, Value.string ⟨#[]⟩, Value.int .i64 0, Value.int .i64 0, Value.slice none 0 0] 37)).heap.size := hlt Xo.out
    go_enter Tryz.func7, Tryz.ntmps7
    go_wp2_with fail
    generalize (((w.alloc (Obj.cells #[Value.int .i64 kd, Value.bool n, Value.slice a1 xs.length c1, Value.bool m, Value.slice a2 ys.length c2, Value.string nm, Value.int .i64 p, Value.int .i64 q, Value.slice a ks.length c] 29)).alloc (Obj.cells #[Value.int .i64 0, Value.bool false, Value.slice none 0 0, Value.bool false, Value.slice none 0 0, Value.string ⟨#[]⟩, Value.int .i64 0, Value.int .i64 0, Value.slice none 0 0] 37)).alloc (Obj.cells #[Value.int .i64 kd, Value.bool false, Value.slice none 0 0, Value.bool false, Value.slice none 0 0, Value.string ⟨#[]⟩, Value.int .i64 0, Value.int .i64 0, Value.slice none 0 0] 37)) = w1 at *
    refine (toR n a1 c1 xs m a2 c2 ys _ (S1.out.below HB.out) (S2.out.below HB.out) (by omega) (by omega)).mono ?_
    rintro e w2 ⟨b1, d1, b2, d2, rfl, ho1, ho2, _, hb⟩
    have yw2 := hb.size
    clear ka0 fa0 ka1 fa1 ka2 fa2 ka3 fa3 ka4 fa4 ka5 fa5 ka6 fa6 ka7 fa7 ka8 fa8 za
    clear kr0 fr0 kr1 fr1 kr2 fr2 kr3 fr3 kr4 fr4 kr5 fr5 kr6 fr6 kr7 fr7 kr8 fr8 zr
    clear ko0 fo0 ko1 fo1 ko2 fo2 ko3 fo3 ko4 fo4 ko5 fo5 ko6 fo6 ko7 fo7 ko8 fo8 zo
    replace Xa := hide (hbel Xa.out hb (by first | assumption | omega))
    replace Xr := hide (hbel Xr.out hb (by first | assumption | omega))
    replace Xo := hide (hbel Xo.out hb (by first | assumption | omega))
    replace HB := hide (bl_trans HB.out hb)
    clear hb
    have O1 := hide ho1
    clear ho1
    have O2 := hide ho2
    clear ho2
    have ka0 : w2.cell? ⟨w.heap.size, 0, none⟩ = some (Value.int .i64 kd) := (Lib.cell_of_heap Xa.out 0).trans rfl
    have fa0 : w2.frozen? ⟨w.heap.size, 0, none⟩ = false := Lib.frozen_of_heap Xa.out 0
    have ka1 : w2.cell? ⟨w.heap.size, 1, none⟩ = some (Value.bool n) := (Lib.cell_of_heap Xa.out 1).trans rfl
    have fa1 : w2.frozen? ⟨w.heap.size, 1, none⟩ = false := Lib.frozen_of_heap Xa.out 1
    have ka2 : w2.cell? ⟨w.heap.size, 2, none⟩ = some (Value.slice a1 xs.length c1) := (Lib.cell_of_heap Xa.out 2).trans rfl
    have fa2 : w2.frozen? ⟨w.heap.size, 2, none⟩ = false := Lib.frozen_of_heap Xa.out 2
    have ka3 : w2.cell? ⟨w.heap.size, 3, none⟩ = some (Value.bool m) := (Lib.cell_of_heap Xa.out 3).trans rfl
    have fa3 : w2.frozen? ⟨w.heap.size, 3, none⟩ = false := Lib.frozen_of_heap Xa.out 3
    have ka4 : w2.cell? ⟨w.heap.size, 4, none⟩ = some (Value.slice a2 ys.length c2) := (Lib.cell_of_heap Xa.out 4).trans rfl
    have fa4 : w2.frozen? ⟨w.heap.size, 4, none⟩ = false := Lib.frozen_of_heap Xa.out 4
    have ka5 : w2.cell? ⟨w.heap.size, 5, none⟩ = some (Value.string nm) := (Lib.cell_of_heap Xa.out 5).trans rfl
    have fa5 : w2.frozen? ⟨w.heap.size, 5, none⟩ = false := Lib.frozen_of_heap Xa.out 5
    have ka6 : w2.cell? ⟨w.heap.size, 6, none⟩ = some (Value.int .i64 p) := (Lib.cell_of_heap Xa.out 6).trans rfl
    have fa6 : w2.frozen? ⟨w.heap.size, 6, none⟩ = false := Lib.frozen_of_heap Xa.out 6
    have ka7 : w2.cell? ⟨w.heap.size, 7, none⟩ = some (Value.int .i64 q) := (Lib.cell_of_heap Xa.out 7).trans rfl
    have fa7 : w2.frozen? ⟨w.heap.size, 7, none⟩ = false := Lib.frozen_of_heap Xa.out 7
    have ka8 : w2.cell? ⟨w.heap.size, 8, none⟩ = some (Value.slice a ks.length c) := (Lib.cell_of_heap Xa.out 8).trans rfl
    have fa8 : w2.frozen? ⟨w.heap.size, 8, none⟩ = false := Lib.frozen_of_heap Xa.out 8
    have za : w.heap.size < w2.heap.size := hlt Xa.out
    have kr0 : w2.cell? ⟨w.heap.size + 1, 0, none⟩ = some (Value.int .i64 0) := (Lib.cell_of_heap Xr.out 0).trans rfl
    have fr0 : w2.frozen? ⟨w.heap.size + 1, 0, none⟩ = false := Lib.frozen_of_heap Xr.out 0
    have kr1 : w2.cell? ⟨w.heap.size + 1, 1, none⟩ = some (Value.bool false) := (Lib.cell_of_heap Xr.out 1).trans rfl
    have fr1 : w2.frozen? ⟨w.heap.size + 1, 1, none⟩ = false := Lib.frozen_of_heap Xr.out 1
    have kr2 : w2.cell? ⟨w.heap.size + 1, 2, none⟩ = some (Value.slice none 0 0) := (Lib.cell_of_heap Xr.out 2).trans rfl
    have fr2 : w2.frozen? ⟨w.heap.size + 1, 2, none⟩ = false := Lib.frozen_of_heap Xr.out 2
    have kr3 : w2.cell? ⟨w.heap.size + 1, 3, none⟩ = some (Value.bool false) := (Lib.cell_of_heap Xr.out 3).trans rfl
    have fr3 : w2.frozen? ⟨w.heap.size + 1, 3, none⟩ = false := Lib.frozen_of_heap Xr.out 3
    have kr4 : w2.cell? ⟨w.heap.size + 1, 4, none⟩ = some (Value.slice none 0 0) := (Lib.cell_of_heap Xr.out 4).trans rfl
    have fr4 : w2.frozen? ⟨w.heap.size + 1, 4, none⟩ = false := Lib.frozen_of_heap Xr.out 4
    have kr5 : w2.cell? ⟨w.heap.size + 1, 5, none⟩ = some (Value.string ⟨#[]⟩) := (Lib.cell_of_heap Xr.out 5).trans rfl
    have fr5 : w2.frozen? ⟨w.heap.size + 1, 5, none⟩ = false := Lib.frozen_of_heap Xr.out 5
    have kr6 : w2.cell? ⟨w.heap.size + 1, 6, none⟩ = some (Value.int .i64 0) := (Lib.cell_of_heap Xr.out 6).trans rfl
    have fr6 : w2.frozen? ⟨w.heap.size + 1, 6, none⟩ = false := Lib.frozen_of_heap Xr.out 6
    have kr7 : w2.cell? ⟨w.heap.size + 1, 7, none⟩ = some (Value.int .i64 0) := (Lib.cell_of_heap Xr.out 7).trans rfl
    have fr7 : w2.frozen? ⟨w.heap.size + 1, 7, none⟩ = false := Lib.frozen_of_heap Xr.out 7
    have kr8 : w2.cell? ⟨w.heap.size + 1, 8, none⟩ = some (Value.slice none 0 0) := (Lib.cell_of_heap Xr.out 8).trans rfl
    have fr8 : w2.frozen? ⟨w.heap.size + 1, 8, none⟩ = false := Lib.frozen_of_heap Xr.out 8
    have zr : w.heap.size + 1 < w2.heap.size := hlt Xr.out
    have ko0 : w2.cell? ⟨w.heap.size + 1 + 1, 0, none⟩ = some (Value.int .i64 kd) := (Lib.cell_of_heap Xo.out 0).trans rfl
    have fo0 : w2.frozen? ⟨w.heap.size + 1 + 1, 0, none⟩ = false := Lib.frozen_of_heap Xo.out 0
    have ko1 : w2.cell? ⟨w.heap.size + 1 + 1, 1, none⟩ = some (Value.bool false) := (Lib.cell_of_heap Xo.out 1).trans rfl
    have fo1 : w2.frozen? ⟨w.heap.size + 1 + 1, 1, none⟩ = false := Lib.frozen_of_heap Xo.out 1
    have ko2 : w2.cell? ⟨w.heap.size + 1 + 1, 2, none⟩ = some (Value.slice none 0 0) := (Lib.cell_of_heap Xo.out 2).trans rfl
    have fo2 : w2.frozen? ⟨w.heap.size + 1 + 1, 2, none⟩ = false := Lib.frozen_of_heap Xo.out 2
    have ko3 : w2.cell? ⟨w.heap.size + 1 + 1, 3, none⟩ = some (Value.bool false) := (Lib.cell_of_heap Xo.out 3).trans rfl
    have fo3 : w2.frozen? ⟨w.heap.size + 1 + 1, 3, none⟩ = false := Lib.frozen_of_heap Xo.out 3
    have ko4 : w2.cell? ⟨w.heap.size + 1 + 1, 4, none⟩ = some (Value.slice none 0 0) := (Lib.cell_of_heap Xo.out 4).trans rfl
    have fo4 : w2.frozen? ⟨w.heap.size + 1 + 1, 4, none⟩ = false := Lib.frozen_of_heap Xo.out 4
    have ko5 : w2.cell? ⟨w.heap.size + 1 + 1, 5, none⟩ = some (Value.string ⟨#[]⟩) := (Lib.cell_of_heap Xo.out 5).trans rfl
    have fo5 : w2.frozen? ⟨w.heap.size + 1 + 1, 5, none⟩ = false := Lib.frozen_of_heap Xo.out 5
    have ko6 : w2.cell? ⟨w.heap.size + 1 + 1, 6, none⟩ = some (Value.int .i64 0) := (Lib.cell_of_heap Xo.out 6).trans rfl
    have fo6 : w2.frozen? ⟨w.heap.size + 1 + 1, 6, none⟩ = false := Lib.frozen_of_heap Xo.out 6
    have ko7 : w2.cell? ⟨w.heap.size + 1 + 1, 7, none⟩ = some (Value.int .i64 0) := (Lib.cell_of_heap Xo.out 7).trans rfl
    have fo7 : w2.frozen? ⟨w.heap.size + 1 + 1, 7, none⟩ = false := Lib.frozen_of_heap Xo.out 7
    have ko8 : w2.cell? ⟨w.heap.size + 1 + 1, 8, none⟩ = some (Value.slice none 0 0) := (Lib.cell_of_heap Xo.out 8).trans rfl
    have fo8 : w2.frozen? ⟨w.heap.size + 1 + 1, 8, none⟩ = false := Lib.frozen_of_heap Xo.out 8
    have zo : w.heap.size + 1 + 1 < w2.heap.size := hlt Xo.out
    go_wp2_with fail
    obtain ⟨w3, ew3⟩ : ∃ x, x = (((((((w2.setCell ⟨w.heap.size + 1 + 1, 1, none⟩ (Value.bool n)).setCell ⟨w.heap.size + 1 + 1, 2, none⟩ (Value.slice b1 xs.length d1)).setCell ⟨w.heap.size + 1 + 1, 3, none⟩ (Value.bool m)).setCell ⟨w.heap.size + 1 + 1, 4, none⟩ (Value.slice b2 ys.length d2)).setCell ⟨w.heap.size + 1 + 1, 5, none⟩ (Value.string nm)).setCell ⟨w.heap.size + 1 + 1, 6, none⟩ (Value.int .i64 p)).setCell ⟨w.heap.size + 1 + 1, 7, none⟩ (Value.int .i64 q)) := ⟨_, rfl⟩
    have hst : St (w.heap.size + 1 + 1) w2 w3 := by rw [ew3]; exact ((((((((St.refl (w.heap.size + 1 + 1) w2).set 1 (Value.bool n)).set 2 (Value.slice b1 xs.length d1)).set 3 (Value.bool m)).set 4 (Value.slice b2 ys.length d2)).set 5 (Value.string nm)).set 6 (Value.int .i64 p)).set 7 (Value.int .i64 q))
    rw [← ew3]
    have XX : Hid (w3.heap[w.heap.size + 1 + 1]? = some (.cells #[Value.int .i64 kd, Value.bool n, Value.slice b1 xs.length d1, Value.bool m, Value.slice b2 ys.length d2, Value.string nm, Value.int .i64 p, Value.int .i64 q, Value.slice none 0 0] 37 (0, 0))) := hide (by rw [ew3]; exact (hset (hset (hset (hset (hset (hset (hset Xo.out 1 (Value.bool n)) 2 (Value.slice b1 xs.length d1)) 3 (Value.bool m)) 4 (Value.slice b2 ys.length d2)) 5 (Value.string nm)) 6 (Value.int .i64 p)) 7 (Value.int .i64 q)))
    have yw3 : w2.heap.size ≤ w3.heap.size := Nat.le_of_eq hst.size.symm
    clear ew3
    clear ka0 fa0 ka1 fa1 ka2 fa2 ka3 fa3 ka4 fa4 ka5 fa5 ka6 fa6 ka7 fa7 ka8 fa8 za
    clear kr0 fr0 kr1 fr1 kr2 fr2 kr3 fr3 kr4 fr4 kr5 fr5 kr6 fr6 kr7 fr7 kr8 fr8 zr
    clear ko0 fo0 ko1 fo1 ko2 fo2 ko3 fo3 ko4 fo4 ko5 fo5 ko6 fo6 ko7 fo7 ko8 fo8 zo
    replace Xa := hide (hst.heap Xa.out (by omega))
    replace Xr := hide (hst.heap Xr.out (by omega))
    replace O1 := hide (O1.out.st hst (by omega))
    replace O2 := hide (O2.out.st hst (by omega))
    replace HB := hide (St.below HB.out hst (by omega))
    have Xo := XX
    clear XX hst
    have ka0 : w3.cell? ⟨w.heap.size, 0, none⟩ = some (Value.int .i64 kd) := (Lib.cell_of_heap Xa.out 0).trans rfl
    have fa0 : w3.frozen? ⟨w.heap.size, 0, none⟩ = false := Lib.frozen_of_heap Xa.out 0
    have ka1 : w3.cell? ⟨w.heap.size, 1, none⟩ = some (Value.bool n) := (Lib.cell_of_heap Xa.out 1).trans rfl
    have fa1 : w3.frozen? ⟨w.heap.size, 1, none⟩ = false := Lib.frozen_of_heap Xa.out 1
    have ka2 : w3.cell? ⟨w.heap.size, 2, none⟩ = some (Value.slice a1 xs.length c1) := (Lib.cell_of_heap Xa.out 2).trans rfl
    have fa2 : w3.frozen? ⟨w.heap.size, 2, none⟩ = false := Lib.frozen_of_heap Xa.out 2
    have ka3 : w3.cell? ⟨w.heap.size, 3, none⟩ = some (Value.bool m) := (Lib.cell_of_heap Xa.out 3).trans rfl
    have fa3 : w3.frozen? ⟨w.heap.size, 3, none⟩ = false := Lib.frozen_of_heap Xa.out 3
    have ka4 : w3.cell? ⟨w.heap.size, 4, none⟩ = some (Value.slice a2 ys.length c2) := (Lib.cell_of_heap Xa.out 4).trans rfl
    have fa4 : w3.frozen? ⟨w.heap.size, 4, none⟩ = false := Lib.frozen_of_heap Xa.out 4
    have ka5 : w3.cell? ⟨w.heap.size, 5, none⟩ = some (Value.string nm) := (Lib.cell_of_heap Xa.out 5).trans rfl
    have fa5 : w3.frozen? ⟨w.heap.size, 5, none⟩ = false := Lib.frozen_of_heap Xa.out 5
    have ka6 : w3.cell? ⟨w.heap.size, 6, none⟩ = some (Value.int .i64 p) := (Lib.cell_of_heap Xa.out 6).trans rfl
    have fa6 : w3.frozen? ⟨w.heap.size, 6, none⟩ = false := Lib.frozen_of_heap Xa.out 6
    have ka7 : w3.cell? ⟨w.heap.size, 7, none⟩ = some (Value.int .i64 q) := (Lib.cell_of_heap Xa.out 7).trans rfl
    have fa7 : w3.frozen? ⟨w.heap.size, 7, none⟩ = false := Lib.frozen_of_heap Xa.out 7
    have ka8 : w3.cell? ⟨w.heap.size, 8, none⟩ = some (Value.slice a ks.length c) := (Lib.cell_of_heap Xa.out 8).trans rfl
    have fa8 : w3.frozen? ⟨w.heap.size, 8, none⟩ = false := Lib.frozen_of_heap Xa.out 8
    have za : w.heap.size < w3.heap.size := hlt Xa.out
    have kr0 : w3.cell? ⟨w.heap.size + 1, 0, none⟩ = some (Value.int .i64 0) := (Lib.cell_of_heap Xr.out 0).trans rfl
    have fr0 : w3.frozen? ⟨w.heap.size + 1, 0, none⟩ = false := Lib.frozen_of_heap Xr.out 0
    have kr1 : w3.cell? ⟨w.heap.size + 1, 1, none⟩ = some (Value.bool false) := (Lib.cell_of_heap Xr.out 1).trans rfl
    have fr1 : w3.frozen? ⟨w.heap.size + 1, 1, none⟩ = false := Lib.frozen_of_heap Xr.out 1
    have kr2 : w3.cell? ⟨w.heap.size + 1, 2, none⟩ = some (Value.slice none 0 0) := (Lib.cell_of_heap Xr.out 2).trans rfl
    have fr2 : w3.frozen? ⟨w.heap.size + 1, 2, none⟩ = false := Lib.frozen_of_heap Xr.out 2
    have kr3 : w3.cell? ⟨w.heap.size + 1, 3, none⟩ = some (Value.bool false) := (Lib.cell_of_heap Xr.out 3).trans rfl
    have fr3 : w3.frozen? ⟨w.heap.size + 1, 3, none⟩ = false := Lib.frozen_of_heap Xr.out 3
    have kr4 : w3.cell? ⟨w.heap.size + 1, 4, none⟩ = some (Value.slice none 0 0) := (Lib.cell_of_heap Xr.out 4).trans rfl
    have fr4 : w3.frozen? ⟨w.heap.size + 1, 4, none⟩ = false := Lib.frozen_of_heap Xr.out 4
    have kr5 : w3.cell? ⟨w.heap.size + 1, 5, none⟩ = some (Value.string ⟨#[]⟩) := (Lib.cell_of_heap Xr.out 5).trans rfl
    have fr5 : w3.frozen? ⟨w.heap.size + 1, 5, none⟩ = false := Lib.frozen_of_heap Xr.out 5
    have kr6 : w3.cell? ⟨w.heap.size + 1, 6, none⟩ = some (Value.int .i64 0) := (Lib.cell_of_heap Xr.out 6).trans rfl
    have fr6 : w3.frozen? ⟨w.heap.size + 1, 6, none⟩ = false := Lib.frozen_of_heap Xr.out 6
    have kr7 : w3.cell? ⟨w.heap.size + 1, 7, none⟩ = some (Value.int .i64 0) := (Lib.cell_of_heap Xr.out 7).trans rfl
    have fr7 : w3.frozen? ⟨w.heap.size + 1, 7, none⟩ = false := Lib.frozen_of_heap Xr.out 7
    have kr8 : w3.cell? ⟨w.heap.size + 1, 8, none⟩ = some (Value.slice none 0 0) := (Lib.cell_of_heap Xr.out 8).trans rfl
    have fr8 : w3.frozen? ⟨w.heap.size + 1, 8, none⟩ = false := Lib.frozen_of_heap Xr.out 8
    have zr : w.heap.size + 1 < w3.heap.size := hlt Xr.out
    have ko0 : w3.cell? ⟨w.heap.size + 1 + 1, 0, none⟩ = some (Value.int .i64 kd) := (Lib.cell_of_heap Xo.out 0).trans rfl
    have fo0 : w3.frozen? ⟨w.heap.size + 1 + 1, 0, none⟩ = false := Lib.frozen_of_heap Xo.out 0
    have ko1 : w3.cell? ⟨w.heap.size + 1 + 1, 1, none⟩ = some (Value.bool n) := (Lib.cell_of_heap Xo.out 1).trans rfl
    have fo1 : w3.frozen? ⟨w.heap.size + 1 + 1, 1, none⟩ = false := Lib.frozen_of_heap Xo.out 1
    have ko2 : w3.cell? ⟨w.heap.size + 1 + 1, 2, none⟩ = some (Value.slice b1 xs.length d1) := (Lib.cell_of_heap Xo.out 2).trans rfl
    have fo2 : w3.frozen? ⟨w.heap.size + 1 + 1, 2, none⟩ = false := Lib.frozen_of_heap Xo.out 2
    have ko3 : w3.cell? ⟨w.heap.size + 1 + 1, 3, none⟩ = some (Value.bool m) := (Lib.cell_of_heap Xo.out 3).trans rfl
    have fo3 : w3.frozen? ⟨w.heap.size + 1 + 1, 3, none⟩ = false := Lib.frozen_of_heap Xo.out 3
    have ko4 : w3.cell? ⟨w.heap.size + 1 + 1, 4, none⟩ = some (Value.slice b2 ys.length d2) := (Lib.cell_of_heap Xo.out 4).trans rfl
    have fo4 : w3.frozen? ⟨w.heap.size + 1 + 1, 4, none⟩ = false := Lib.frozen_of_heap Xo.out 4
    have ko5 : w3.cell? ⟨w.heap.size + 1 + 1, 5, none⟩ = some (Value.string nm) := (Lib.cell_of_heap Xo.out 5).trans rfl
    have fo5 : w3.frozen? ⟨w.heap.size + 1 + 1, 5, none⟩ = false := Lib.frozen_of_heap Xo.out 5
    have ko6 : w3.cell? ⟨w.heap.size + 1 + 1, 6, none⟩ = some (Value.int .i64 p) := (Lib.cell_of_heap Xo.out 6).trans rfl
    have fo6 : w3.frozen? ⟨w.heap.size + 1 + 1, 6, none⟩ = false := Lib.frozen_of_heap Xo.out 6
    have ko7 : w3.cell? ⟨w.heap.size + 1 + 1, 7, none⟩ = some (Value.int .i64 q) := (Lib.cell_of_heap Xo.out 7).trans rfl
    have fo7 : w3.frozen? ⟨w.heap.size + 1 + 1, 7, none⟩ = false := Lib.frozen_of_heap Xo.out 7
    have ko8 : w3.cell? ⟨w.heap.size + 1 + 1, 8, none⟩ = some (Value.slice none 0 0) := (Lib.cell_of_heap Xo.out 8).trans rfl
    have fo8 : w3.frozen? ⟨w.heap.size + 1 + 1, 8, none⟩ = false := Lib.frozen_of_heap Xo.out 8
    have zo : w.heap.size + 1 + 1 < w3.heap.size := hlt Xo.out
    refine (toExS a ks.length c X ks _ (S3.out.below HB.out) IH (by omega)).mono ?_
    rintro e w4 ⟨b, rfl, ho3, hb⟩
    have yw4 := hb.size
    clear ka0 fa0 ka1 fa1 ka2 fa2 ka3 fa3 ka4 fa4 ka5 fa5 ka6 fa6 ka7 fa7 ka8 fa8 za
    clear kr0 fr0 kr1 fr1 kr2 fr2 kr3 fr3 kr4 fr4 kr5 fr5 kr6 fr6 kr7 fr7 kr8 fr8 zr
    clear ko0 fo0 ko1 fo1 ko2 fo2 ko3 fo3 ko4 fo4 ko5 fo5 ko6 fo6 ko7 fo7 ko8 fo8 zo
    replace Xa := hide (hbel Xa.out hb (by first | assumption | omega))
    replace Xr := hide (hbel Xr.out hb (by first | assumption | omega))
    replace Xo := hide (hbel Xo.out hb (by first | assumption | omega))
    replace O1 := hide (O1.out.below hb)
    replace O2 := hide (O2.out.below hb)
    replace HB := hide (bl_trans HB.out hb)
    clear hb
    have O3 := hide ho3
    clear ho3
    have ka0 : w4.cell? ⟨w.heap.size, 0, none⟩ = some (Value.int .i64 kd) := (Lib.cell_of_heap Xa.out 0).trans rfl
    have fa0 : w4.frozen? ⟨w.heap.size, 0, none⟩ = false := Lib.frozen_of_heap Xa.out 0
    have ka1 : w4.cell? ⟨w.heap.size, 1, none⟩ = some (Value.bool n) := (Lib.cell_of_heap Xa.out 1).trans rfl
    have fa1 : w4.frozen? ⟨w.heap.size, 1, none⟩ = false := Lib.frozen_of_heap Xa.out 1
    have ka2 : w4.cell? ⟨w.heap.size, 2, none⟩ = some (Value.slice a1 xs.length c1) := (Lib.cell_of_heap Xa.out 2).trans rfl
    have fa2 : w4.frozen? ⟨w.heap.size, 2, none⟩ = false := Lib.frozen_of_heap Xa.out 2
    have ka3 : w4.cell? ⟨w.heap.size, 3, none⟩ = some (Value.bool m) := (Lib.cell_of_heap Xa.out 3).trans rfl
    have fa3 : w4.frozen? ⟨w.heap.size, 3, none⟩ = false := Lib.frozen_of_heap Xa.out 3
    have ka4 : w4.cell? ⟨w.heap.size, 4, none⟩ = some (Value.slice a2 ys.length c2) := (Lib.cell_of_heap Xa.out 4).trans rfl
    have fa4 : w4.frozen? ⟨w.heap.size, 4, none⟩ = false := Lib.frozen_of_heap Xa.out 4
    have ka5 : w4.cell? ⟨w.heap.size, 5, none⟩ = some (Value.string nm) := (Lib.cell_of_heap Xa.out 5).trans rfl
    have fa5 : w4.frozen? ⟨w.heap.size, 5, none⟩ = false := Lib.frozen_of_heap Xa.out 5
    have ka6 : w4.cell? ⟨w.heap.size, 6, none⟩ = some (Value.int .i64 p) := (Lib.cell_of_heap Xa.out 6).trans rfl
    have fa6 : w4.frozen? ⟨w.heap.size, 6, none⟩ = false := Lib.frozen_of_heap Xa.out 6
    have ka7 : w4.cell? ⟨w.heap.size, 7, none⟩ = some (Value.int .i64 q) := (Lib.cell_of_heap Xa.out 7).trans rfl
    have fa7 : w4.frozen? ⟨w.heap.size, 7, none⟩ = false := Lib.frozen_of_heap Xa.out 7
    have ka8 : w4.cell? ⟨w.heap.size, 8, none⟩ = some (Value.slice a ks.length c) := (Lib.cell_of_heap Xa.out 8).trans rfl
    have fa8 : w4.frozen? ⟨w.heap.size, 8, none⟩ = false := Lib.frozen_of_heap Xa.out 8
    have za : w.heap.size < w4.heap.size := hlt Xa.out
    have kr0 : w4.cell? ⟨w.heap.size + 1, 0, none⟩ = some (Value.int .i64 0) := (Lib.cell_of_heap Xr.out 0).trans rfl
    have fr0 : w4.frozen? ⟨w.heap.size + 1, 0, none⟩ = false := Lib.frozen_of_heap Xr.out 0
    have kr1 : w4.cell? ⟨w.heap.size + 1, 1, none⟩ = some (Value.bool false) := (Lib.cell_of_heap Xr.out 1).trans rfl
    have fr1 : w4.frozen? ⟨w.heap.size + 1, 1, none⟩ = false := Lib.frozen_of_heap Xr.out 1
    have kr2 : w4.cell? ⟨w.heap.size + 1, 2, none⟩ = some (Value.slice none 0 0) := (Lib.cell_of_heap Xr.out 2).trans rfl
    have fr2 : w4.frozen? ⟨w.heap.size + 1, 2, none⟩ = false := Lib.frozen_of_heap Xr.out 2
    have kr3 : w4.cell? ⟨w.heap.size + 1, 3, none⟩ = some (Value.bool false) := (Lib.cell_of_heap Xr.out 3).trans rfl
    have fr3 : w4.frozen? ⟨w.heap.size + 1, 3, none⟩ = false := Lib.frozen_of_heap Xr.out 3
    have kr4 : w4.cell? ⟨w.heap.size + 1, 4, none⟩ = some (Value.slice none 0 0) := (Lib.cell_of_heap Xr.out 4).trans rfl
    have fr4 : w4.frozen? ⟨w.heap.size + 1, 4, none⟩ = false := Lib.frozen_of_heap Xr.out 4
    have kr5 : w4.cell? ⟨w.heap.size + 1, 5, none⟩ = some (Value.string ⟨#[]⟩) := (Lib.cell_of_heap Xr.out 5).trans rfl
    have fr5 : w4.frozen? ⟨w.heap.size + 1, 5, none⟩ = false := Lib.frozen_of_heap Xr.out 5
    have kr6 : w4.cell? ⟨w.heap.size + 1, 6, none⟩ = some (Value.int .i64 0) := (Lib.cell_of_heap Xr.out 6).trans rfl
    have fr6 : w4.frozen? ⟨w.heap.size + 1, 6, none⟩ = false := Lib.frozen_of_heap Xr.out 6
    have kr7 : w4.cell? ⟨w.heap.size + 1, 7, none⟩ = some (Value.int .i64 0) := (Lib.cell_of_heap Xr.out 7).trans rfl
    have fr7 : w4.frozen? ⟨w.heap.size + 1, 7, none⟩ = false := Lib.frozen_of_heap Xr.out 7
    have kr8 : w4.cell? ⟨w.heap.size + 1, 8, none⟩ = some (Value.slice none 0 0) := (Lib.cell_of_heap Xr.out 8).trans rfl
    have fr8 : w4.frozen? ⟨w.heap.size + 1, 8, none⟩ = false := Lib.frozen_of_heap Xr.out 8
    have zr : w.heap.size + 1 < w4.heap.size := hlt Xr.out
    have ko0 : w4.cell? ⟨w.heap.size + 1 + 1, 0, none⟩ = some (Value.int .i64 kd) := (Lib.cell_of_heap Xo.out 0).trans rfl
    have fo0 : w4.frozen? ⟨w.heap.size + 1 + 1, 0, none⟩ = false := Lib.frozen_of_heap Xo.out 0
    have ko1 : w4.cell? ⟨w.heap.size + 1 + 1, 1, none⟩ = some (Value.bool n) := (Lib.cell_of_heap Xo.out 1).trans rfl
    have fo1 : w4.frozen? ⟨w.heap.size + 1 + 1, 1, none⟩ = false := Lib.frozen_of_heap Xo.out 1
    have ko2 : w4.cell? ⟨w.heap.size + 1 + 1, 2, none⟩ = some (Value.slice b1 xs.length d1) := (Lib.cell_of_heap Xo.out 2).trans rfl
    have fo2 : w4.frozen? ⟨w.heap.size + 1 + 1, 2, none⟩ = false := Lib.frozen_of_heap Xo.out 2
    have ko3 : w4.cell? ⟨w.heap.size + 1 + 1, 3, none⟩ = some (Value.bool m) := (Lib.cell_of_heap Xo.out 3).trans rfl
    have fo3 : w4.frozen? ⟨w.heap.size + 1 + 1, 3, none⟩ = false := Lib.frozen_of_heap Xo.out 3
    have ko4 : w4.cell? ⟨w.heap.size + 1 + 1, 4, none⟩ = some (Value.slice b2 ys.length d2) := (Lib.cell_of_heap Xo.out 4).trans rfl
    have fo4 : w4.frozen? ⟨w.heap.size + 1 + 1, 4, none⟩ = false := Lib.frozen_of_heap Xo.out 4
    have ko5 : w4.cell? ⟨w.heap.size + 1 + 1, 5, none⟩ = some (Value.string nm) := (Lib.cell_of_heap Xo.out 5).trans rfl
    have fo5 : w4.frozen? ⟨w.heap.size + 1 + 1, 5, none⟩ = false := Lib.frozen_of_heap Xo.out 5
    have ko6 : w4.cell? ⟨w.heap.size + 1 + 1, 6, none⟩ = some (Value.int .i64 p) := (Lib.cell_of_heap Xo.out 6).trans rfl
    have fo6 : w4.frozen? ⟨w.heap.size + 1 + 1, 6, none⟩ = false := Lib.frozen_of_heap Xo.out 6
    have ko7 : w4.cell? ⟨w.heap.size + 1 + 1, 7, none⟩ = some (Value.int .i64 q) := (Lib.cell_of_heap Xo.out 7).trans rfl
    have fo7 : w4.frozen? ⟨w.heap.size + 1 + 1, 7, none⟩ = false := Lib.frozen_of_heap Xo.out 7
    have ko8 : w4.cell? ⟨w.heap.size + 1 + 1, 8, none⟩ = some (Value.slice none 0 0) := (Lib.cell_of_heap Xo.out 8).trans rfl
    have fo8 : w4.frozen? ⟨w.heap.size + 1 + 1, 8, none⟩ = false := Lib.frozen_of_heap Xo.out 8
    have zo : w.heap.size + 1 + 1 < w4.heap.size := hlt Xo.out
    go_wp2
    obtain ⟨w5, ew5⟩ : ∃ x, x = (w4.setCell ⟨w.heap.size + 1 + 1, 8, none⟩ (Value.slice b ks.length ks.length)) := ⟨_, rfl⟩
    have hst : St (w.heap.size + 1 + 1) w4 w5 := by rw [ew5]; exact ((St.refl (w.heap.size + 1 + 1) w4).set 8 (Value.slice b ks.length ks.length))
    rw [← ew5]
    have XX : Hid (w5.heap[w.heap.size + 1 + 1]? = some (.cells #[Value.int .i64 kd, Value.bool n, Value.slice b1 xs.length d1, Value.bool m, Value.slice b2 ys.length d2, Value.string nm, Value.int .i64 p, Value.int .i64 q, Value.slice b ks.length ks.length] 37 (0, 0))) := hide (by rw [ew5]; exact (hset Xo.out 8 (Value.slice b ks.length ks.length)))
    have yw5 : w4.heap.size ≤ w5.heap.size := Nat.le_of_eq hst.size.symm
    clear ew5
    clear ka0 fa0 ka1 fa1 ka2 fa2 ka3 fa3 ka4 fa4 ka5 fa5 ka6 fa6 ka7 fa7 ka8 fa8 za
    clear kr0 fr0 kr1 fr1 kr2 fr2 kr3 fr3 kr4 fr4 kr5 fr5 kr6 fr6 kr7 fr7 kr8 fr8 zr
    clear ko0 fo0 ko1 fo1 ko2 fo2 ko3 fo3 ko4 fo4 ko5 fo5 ko6 fo6 ko7 fo7 ko8 fo8 zo
    replace Xa := hide (hst.heap Xa.out (by omega))
    replace Xr := hide (hst.heap Xr.out (by omega))
    replace O1 := hide (O1.out.st hst (by omega))
    replace O2 := hide (O2.out.st hst (by omega))
    replace O3 := hide (O3.out.st hst (fun k hk => by have := hk.1; omega))
    replace HB := hide (St.below HB.out hst (by omega))
    have Xo := XX
    clear XX hst
    have ka0 : w5.cell? ⟨w.heap.size, 0, none⟩ = some (Value.int .i64 kd) := (Lib.cell_of_heap Xa.out 0).trans rfl
    have fa0 : w5.frozen? ⟨w.heap.size, 0, none⟩ = false := Lib.frozen_of_heap Xa.out 0
    have ka1 : w5.cell? ⟨w.heap.size, 1, none⟩ = some (Value.bool n) := (Lib.cell_of_heap Xa.out 1).trans rfl
    have fa1 : w5.frozen? ⟨w.heap.size, 1, none⟩ = false := Lib.frozen_of_heap Xa.out 1
    have ka2 : w5.cell? ⟨w.heap.size, 2, none⟩ = some (Value.slice a1 xs.length c1) := (Lib.cell_of_heap Xa.out 2).trans rfl
    have fa2 : w5.frozen? ⟨w.heap.size, 2, none⟩ = false := Lib.frozen_of_heap Xa.out 2
    have ka3 : w5.cell? ⟨w.heap.size, 3, none⟩ = some (Value.bool m) := (Lib.cell_of_heap Xa.out 3).trans rfl
    have fa3 : w5.frozen? ⟨w.heap.size, 3, none⟩ = false := Lib.frozen_of_heap Xa.out 3
    have ka4 : w5.cell? ⟨w.heap.size, 4, none⟩ = some (Value.slice a2 ys.length c2) := (Lib.cell_of_heap Xa.out 4).trans rfl
    have fa4 : w5.frozen? ⟨w.heap.size, 4, none⟩ = false := Lib.frozen_of_heap Xa.out 4
    have ka5 : w5.cell? ⟨w.heap.size, 5, none⟩ = some (Value.string nm) := (Lib.cell_of_heap Xa.out 5).trans rfl
    have fa5 : w5.frozen? ⟨w.heap.size, 5, none⟩ = false := Lib.frozen_of_heap Xa.out 5
    have ka6 : w5.cell? ⟨w.heap.size, 6, none⟩ = some (Value.int .i64 p) := (Lib.cell_of_heap Xa.out 6).trans rfl
    have fa6 : w5.frozen? ⟨w.heap.size, 6, none⟩ = false := Lib.frozen_of_heap Xa.out 6
    have ka7 : w5.cell? ⟨w.heap.size, 7, none⟩ = some (Value.int .i64 q) := (Lib.cell_of_heap Xa.out 7).trans rfl
    have fa7 : w5.frozen? ⟨w.heap.size, 7, none⟩ = false := Lib.frozen_of_heap Xa.out 7
    have ka8 : w5.cell? ⟨w.heap.size, 8, none⟩ = some (Value.slice a ks.length c) := (Lib.cell_of_heap Xa.out 8).trans rfl
    have fa8 : w5.frozen? ⟨w.heap.size, 8, none⟩ = false := Lib.frozen_of_heap Xa.out 8
    have za : w.heap.size < w5.heap.size := hlt Xa.out
    have kr0 : w5.cell? ⟨w.heap.size + 1, 0, none⟩ = some (Value.int .i64 0) := (Lib.cell_of_heap Xr.out 0).trans rfl
    have fr0 : w5.frozen? ⟨w.heap.size + 1, 0, none⟩ = false := Lib.frozen_of_heap Xr.out 0
    have kr1 : w5.cell? ⟨w.heap.size + 1, 1, none⟩ = some (Value.bool false) := (Lib.cell_of_heap Xr.out 1).trans rfl
    have fr1 : w5.frozen? ⟨w.heap.size + 1, 1, none⟩ = false := Lib.frozen_of_heap Xr.out 1
    have kr2 : w5.cell? ⟨w.heap.size + 1, 2, none⟩ = some (Value.slice none 0 0) := (Lib.cell_of_heap Xr.out 2).trans rfl
    have fr2 : w5.frozen? ⟨w.heap.size + 1, 2, none⟩ = false := Lib.frozen_of_heap Xr.out 2
    have kr3 : w5.cell? ⟨w.heap.size + 1, 3, none⟩ = some (Value.bool false) := (Lib.cell_of_heap Xr.out 3).trans rfl
    have fr3 : w5.frozen? ⟨w.heap.size + 1, 3, none⟩ = false := Lib.frozen_of_heap Xr.out 3
    have kr4 : w5.cell? ⟨w.heap.size + 1, 4, none⟩ = some (Value.slice none 0 0) := (Lib.cell_of_heap Xr.out 4).trans rfl
    have fr4 : w5.frozen? ⟨w.heap.size + 1, 4, none⟩ = false := Lib.frozen_of_heap Xr.out 4
    have kr5 : w5.cell? ⟨w.heap.size + 1, 5, none⟩ = some (Value.string ⟨#[]⟩) := (Lib.cell_of_heap Xr.out 5).trans rfl
    have fr5 : w5.frozen? ⟨w.heap.size + 1, 5, none⟩ = false := Lib.frozen_of_heap Xr.out 5
    have kr6 : w5.cell? ⟨w.heap.size + 1, 6, none⟩ = some (Value.int .i64 0) := (Lib.cell_of_heap Xr.out 6).trans rfl
    have fr6 : w5.frozen? ⟨w.heap.size + 1, 6, none⟩ = false := Lib.frozen_of_heap Xr.out 6
    have kr7 : w5.cell? ⟨w.heap.size + 1, 7, none⟩ = some (Value.int .i64 0) := (Lib.cell_of_heap Xr.out 7).trans rfl
    have fr7 : w5.frozen? ⟨w.heap.size + 1, 7, none⟩ = false := Lib.frozen_of_heap Xr.out 7
    have kr8 : w5.cell? ⟨w.heap.size + 1, 8, none⟩ = some (Value.slice none 0 0) := (Lib.cell_of_heap Xr.out 8).trans rfl
    have fr8 : w5.frozen? ⟨w.heap.size + 1, 8, none⟩ = false := Lib.frozen_of_heap Xr.out 8
    have zr : w.heap.size + 1 < w5.heap.size := hlt Xr.out
    have ko0 : w5.cell? ⟨w.heap.size + 1 + 1, 0, none⟩ = some (Value.int .i64 kd) := (Lib.cell_of_heap Xo.out 0).trans rfl
    have fo0 : w5.frozen? ⟨w.heap.size + 1 + 1, 0, none⟩ = false := Lib.frozen_of_heap Xo.out 0
    have ko1 : w5.cell? ⟨w.heap.size + 1 + 1, 1, none⟩ = some (Value.bool n) := (Lib.cell_of_heap Xo.out 1).trans rfl
    have fo1 : w5.frozen? ⟨w.heap.size + 1 + 1, 1, none⟩ = false := Lib.frozen_of_heap Xo.out 1
    have ko2 : w5.cell? ⟨w.heap.size + 1 + 1, 2, none⟩ = some (Value.slice b1 xs.length d1) := (Lib.cell_of_heap Xo.out 2).trans rfl
    have fo2 : w5.frozen? ⟨w.heap.size + 1 + 1, 2, none⟩ = false := Lib.frozen_of_heap Xo.out 2
    have ko3 : w5.cell? ⟨w.heap.size + 1 + 1, 3, none⟩ = some (Value.bool m) := (Lib.cell_of_heap Xo.out 3).trans rfl
    have fo3 : w5.frozen? ⟨w.heap.size + 1 + 1, 3, none⟩ = false := Lib.frozen_of_heap Xo.out 3
    have ko4 : w5.cell? ⟨w.heap.size + 1 + 1, 4, none⟩ = some (Value.slice b2 ys.length d2) := (Lib.cell_of_heap Xo.out 4).trans rfl
    have fo4 : w5.frozen? ⟨w.heap.size + 1 + 1, 4, none⟩ = false := Lib.frozen_of_heap Xo.out 4
    have ko5 : w5.cell? ⟨w.heap.size + 1 + 1, 5, none⟩ = some (Value.string nm) := (Lib.cell_of_heap Xo.out 5).trans rfl
    have fo5 : w5.frozen? ⟨w.heap.size + 1 + 1, 5, none⟩ = false := Lib.frozen_of_heap Xo.out 5
    have ko6 : w5.cell? ⟨w.heap.size + 1 + 1, 6, none⟩ = some (Value.int .i64 p) := (Lib.cell_of_heap Xo.out 6).trans rfl
    have fo6 : w5.frozen? ⟨w.heap.size + 1 + 1, 6, none⟩ = false := Lib.frozen_of_heap Xo.out 6
    have ko7 : w5.cell? ⟨w.heap.size + 1 + 1, 7, none⟩ = some (Value.int .i64 q) := (Lib.cell_of_heap Xo.out 7).trans rfl
    have fo7 : w5.frozen? ⟨w.heap.size + 1 + 1, 7, none⟩ = false := Lib.frozen_of_heap Xo.out 7
    have ko8 : w5.cell? ⟨w.heap.size + 1 + 1, 8, none⟩ = some (Value.slice b ks.length ks.length) := (Lib.cell_of_heap Xo.out 8).trans rfl
    have fo8 : w5.frozen? ⟨w.heap.size + 1 + 1, 8, none⟩ = false := Lib.frozen_of_heap Xo.out 8
    have zo : w.heap.size + 1 + 1 < w5.heap.size := hlt Xo.out
    obtain ⟨w6, ew6⟩ : ∃ x, x = (((((((((w5.setCell ⟨w.heap.size + 1, 0, none⟩ (Value.int .i64 kd)).setCell ⟨w.heap.size + 1, 1, none⟩ (Value.bool n)).setCell ⟨w.heap.size + 1, 2, none⟩ (Value.slice b1 xs.length d1)).setCell ⟨w.heap.size + 1, 3, none⟩ (Value.bool m)).setCell ⟨w.heap.size + 1, 4, none⟩ (Value.slice b2 ys.length d2)).setCell ⟨w.heap.size + 1, 5, none⟩ (Value.string nm)).setCell ⟨w.heap.size + 1, 6, none⟩ (Value.int .i64 p)).setCell ⟨w.heap.size + 1, 7, none⟩ (Value.int .i64 q)).setCell ⟨w.heap.size + 1, 8, none⟩ (Value.slice b ks.length ks.length)) := ⟨_, rfl⟩
    have hst : St (w.heap.size + 1) w5 w6 := by rw [ew6]; exact ((((((((((St.refl (w.heap.size + 1) w5).set 0 (Value.int .i64 kd)).set 1 (Value.bool n)).set 2 (Value.slice b1 xs.length d1)).set 3 (Value.bool m)).set 4 (Value.slice b2 ys.length d2)).set 5 (Value.string nm)).set 6 (Value.int .i64 p)).set 7 (Value.int .i64 q)).set 8 (Value.slice b ks.length ks.length))
    rw [← ew6]
    have XX : Hid (w6.heap[w.heap.size + 1]? = some (.cells #[Value.int .i64 kd, Value.bool n, Value.slice b1 xs.length d1, Value.bool m, Value.slice b2 ys.length d2, Value.string nm, Value.int .i64 p, Value.int .i64 q, Value.slice b ks.length ks.length] 37 (0, 0))) := hide (by rw [ew6]; exact (hset (hset (hset (hset (hset (hset (hset (hset (hset Xr.out 0 (Value.int .i64 kd)) 1 (Value.bool n)) 2 (Value.slice b1 xs.length d1)) 3 (Value.bool m)) 4 (Value.slice b2 ys.length d2)) 5 (Value.string nm)) 6 (Value.int .i64 p)) 7 (Value.int .i64 q)) 8 (Value.slice b ks.length ks.length)))
    have yw6 : w5.heap.size ≤ w6.heap.size := Nat.le_of_eq hst.size.symm
    clear ew6
    clear ka0 fa0 ka1 fa1 ka2 fa2 ka3 fa3 ka4 fa4 ka5 fa5 ka6 fa6 ka7 fa7 ka8 fa8 za
    clear kr0 fr0 kr1 fr1 kr2 fr2 kr3 fr3 kr4 fr4 kr5 fr5 kr6 fr6 kr7 fr7 kr8 fr8 zr
    clear ko0 fo0 ko1 fo1 ko2 fo2 ko3 fo3 ko4 fo4 ko5 fo5 ko6 fo6 ko7 fo7 ko8 fo8 zo
    replace Xa := hide (hst.heap Xa.out (by omega))
    replace Xo := hide (hst.heap Xo.out (by omega))
    replace O1 := hide (O1.out.st hst (by omega))
    replace O2 := hide (O2.out.st hst (by omega))
    replace O3 := hide (O3.out.st hst (fun k hk => by have := hk.1; omega))
    replace HB := hide (St.below HB.out hst (by omega))
    have Xr := XX
    clear XX hst
    have ka0 : w6.cell? ⟨w.heap.size, 0, none⟩ = some (Value.int .i64 kd) := (Lib.cell_of_heap Xa.out 0).trans rfl
    have fa0 : w6.frozen? ⟨w.heap.size, 0, none⟩ = false := Lib.frozen_of_heap Xa.out 0
    have ka1 : w6.cell? ⟨w.heap.size, 1, none⟩ = some (Value.bool n) := (Lib.cell_of_heap Xa.out 1).trans rfl
    have fa1 : w6.frozen? ⟨w.heap.size, 1, none⟩ = false := Lib.frozen_of_heap Xa.out 1
    have ka2 : w6.cell? ⟨w.heap.size, 2, none⟩ = some (Value.slice a1 xs.length c1) := (Lib.cell_of_heap Xa.out 2).trans rfl
    have fa2 : w6.frozen? ⟨w.heap.size, 2, none⟩ = false := Lib.frozen_of_heap Xa.out 2
    have ka3 : w6.cell? ⟨w.heap.size, 3, none⟩ = some (Value.bool m) := (Lib.cell_of_heap Xa.out 3).trans rfl
    have fa3 : w6.frozen? ⟨w.heap.size, 3, none⟩ = false := Lib.frozen_of_heap Xa.out 3
    have ka4 : w6.cell? ⟨w.heap.size, 4, none⟩ = some (Value.slice a2 ys.length c2) := (Lib.cell_of_heap Xa.out 4).trans rfl
    have fa4 : w6.frozen? ⟨w.heap.size, 4, none⟩ = false := Lib.frozen_of_heap Xa.out 4
    have ka5 : w6.cell? ⟨w.heap.size, 5, none⟩ = some (Value.string nm) := (Lib.cell_of_heap Xa.out 5).trans rfl
    have fa5 : w6.frozen? ⟨w.heap.size, 5, none⟩ = false := Lib.frozen_of_heap Xa.out 5
    have ka6 : w6.cell? ⟨w.heap.size, 6, none⟩ = some (Value.int .i64 p) := (Lib.cell_of_heap Xa.out 6).trans rfl
    have fa6 : w6.frozen? ⟨w.heap.size, 6, none⟩ = false := Lib.frozen_of_heap Xa.out 6
    have ka7 : w6.cell? ⟨w.heap.size, 7, none⟩ = some (Value.int .i64 q) := (Lib.cell_of_heap Xa.out 7).trans rfl
    have fa7 : w6.frozen? ⟨w.heap.size, 7, none⟩ = false := Lib.frozen_of_heap Xa.out 7
    have ka8 : w6.cell? ⟨w.heap.size, 8, none⟩ = some (Value.slice a ks.length c) := (Lib.cell_of_heap Xa.out 8).trans rfl
    have fa8 : w6.frozen? ⟨w.heap.size, 8, none⟩ = false := Lib.frozen_of_heap Xa.out 8
    have za : w.heap.size < w6.heap.size := hlt Xa.out
    have kr0 : w6.cell? ⟨w.heap.size + 1, 0, none⟩ = some (Value.int .i64 kd) := (Lib.cell_of_heap Xr.out 0).trans rfl
    have fr0 : w6.frozen? ⟨w.heap.size + 1, 0, none⟩ = false := Lib.frozen_of_heap Xr.out 0
    have kr1 : w6.cell? ⟨w.heap.size + 1, 1, none⟩ = some (Value.bool n) := (Lib.cell_of_heap Xr.out 1).trans rfl
    have fr1 : w6.frozen? ⟨w.heap.size + 1, 1, none⟩ = false := Lib.frozen_of_heap Xr.out 1
    have kr2 : w6.cell? ⟨w.heap.size + 1, 2, none⟩ = some (Value.slice b1 xs.length d1) := (Lib.cell_of_heap Xr.out 2).trans rfl
    have fr2 : w6.frozen? ⟨w.heap.size + 1, 2, none⟩ = false := Lib.frozen_of_heap Xr.out 2
    have kr3 : w6.cell? ⟨w.heap.size + 1, 3, none⟩ = some (Value.bool m) := (Lib.cell_of_heap Xr.out 3).trans rfl
    have fr3 : w6.frozen? ⟨w.heap.size + 1, 3, none⟩ = false := Lib.frozen_of_heap Xr.out 3
    have kr4 : w6.cell? ⟨w.heap.size + 1, 4, none⟩ = some (Value.slice b2 ys.length d2) := (Lib.cell_of_heap Xr.out 4).trans rfl
    have fr4 : w6.frozen? ⟨w.heap.size + 1, 4, none⟩ = false := Lib.frozen_of_heap Xr.out 4
    have kr5 : w6.cell? ⟨w.heap.size + 1, 5, none⟩ = some (Value.string nm) := (Lib.cell_of_heap Xr.out 5).trans rfl
    have fr5 : w6.frozen? ⟨w.heap.size + 1, 5, none⟩ = false := Lib.frozen_of_heap Xr.out 5
    have kr6 : w6.cell? ⟨w.heap.size + 1, 6, none⟩ = some (Value.int .i64 p) := (Lib.cell_of_heap Xr.out 6).trans rfl
    have fr6 : w6.frozen? ⟨w.heap.size + 1, 6, none⟩ = false := Lib.frozen_of_heap Xr.out 6
    have kr7 : w6.cell? ⟨w.heap.size + 1, 7, none⟩ = some (Value.int .i64 q) := (Lib.cell_of_heap Xr.out 7).trans rfl
    have fr7 : w6.frozen? ⟨w.heap.size + 1, 7, none⟩ = false := Lib.frozen_of_heap Xr.out 7
    have kr8 : w6.cell? ⟨w.heap.size + 1, 8, none⟩ = some (Value.slice b ks.length ks.length) := (Lib.cell_of_heap Xr.out 8).trans rfl
    have fr8 : w6.frozen? ⟨w.heap.size + 1, 8, none⟩ = false := Lib.frozen_of_heap Xr.out 8
    have zr : w.heap.size + 1 < w6.heap.size := hlt Xr.out
    have ko0 : w6.cell? ⟨w.heap.size + 1 + 1, 0, none⟩ = some (Value.int .i64 kd) := (Lib.cell_of_heap Xo.out 0).trans rfl
    have fo0 : w6.frozen? ⟨w.heap.size + 1 + 1, 0, none⟩ = false := Lib.frozen_of_heap Xo.out 0
    have ko1 : w6.cell? ⟨w.heap.size + 1 + 1, 1, none⟩ = some (Value.bool n) := (Lib.cell_of_heap Xo.out 1).trans rfl
    have fo1 : w6.frozen? ⟨w.heap.size + 1 + 1, 1, none⟩ = false := Lib.frozen_of_heap Xo.out 1
    have ko2 : w6.cell? ⟨w.heap.size + 1 + 1, 2, none⟩ = some (Value.slice b1 xs.length d1) := (Lib.cell_of_heap Xo.out 2).trans rfl
    have fo2 : w6.frozen? ⟨w.heap.size + 1 + 1, 2, none⟩ = false := Lib.frozen_of_heap Xo.out 2
    have ko3 : w6.cell? ⟨w.heap.size + 1 + 1, 3, none⟩ = some (Value.bool m) := (Lib.cell_of_heap Xo.out 3).trans rfl
    have fo3 : w6.frozen? ⟨w.heap.size + 1 + 1, 3, none⟩ = false := Lib.frozen_of_heap Xo.out 3
    have ko4 : w6.cell? ⟨w.heap.size + 1 + 1, 4, none⟩ = some (Value.slice b2 ys.length d2) := (Lib.cell_of_heap Xo.out 4).trans rfl
    have fo4 : w6.frozen? ⟨w.heap.size + 1 + 1, 4, none⟩ = false := Lib.frozen_of_heap Xo.out 4
    have ko5 : w6.cell? ⟨w.heap.size + 1 + 1, 5, none⟩ = some (Value.string nm) := (Lib.cell_of_heap Xo.out 5).trans rfl
    have fo5 : w6.frozen? ⟨w.heap.size + 1 + 1, 5, none⟩ = false := Lib.frozen_of_heap Xo.out 5
    have ko6 : w6.cell? ⟨w.heap.size + 1 + 1, 6, none⟩ = some (Value.int .i64 p) := (Lib.cell_of_heap Xo.out 6).trans rfl
    have fo6 : w6.frozen? ⟨w.heap.size + 1 + 1, 6, none⟩ = false := Lib.frozen_of_heap Xo.out 6
    have ko7 : w6.cell? ⟨w.heap.size + 1 + 1, 7, none⟩ = some (Value.int .i64 q) := (Lib.cell_of_heap Xo.out 7).trans rfl
    have fo7 : w6.frozen? ⟨w.heap.size + 1 + 1, 7, none⟩ = false := Lib.frozen_of_heap Xo.out 7
    have ko8 : w6.cell? ⟨w.heap.size + 1 + 1, 8, none⟩ = some (Value.slice b ks.length ks.length) := (Lib.cell_of_heap Xo.out 8).trans rfl
    have fo8 : w6.frozen? ⟨w.heap.size + 1 + 1, 8, none⟩ = false := Lib.frozen_of_heap Xo.out 8
    have zo : w.heap.size + 1 + 1 < w6.heap.size := hlt Xo.out
    refine bodyPost_ret (v := Value.agg #[Value.int .i64 kd, Value.bool n, Value.slice b1 xs.length d1, Value.bool m, Value.slice b2 ys.length d2, Value.string nm, Value.int .i64 p, Value.int .i64 q, Value.slice b ks.length ks.length]) (by simp [results, Tryz.results7, go_sem, kr0, kr1, kr2, kr3, kr4, kr5, kr6, kr7, kr8]) rfl ?_
    exact ⟨b1, d1, b2, d2, b, rfl, O1.out.mono (by omega), O2.out.mono (by omega), O3.out.mono (fun k hk => ⟨by have := hk.1; omega, by have := hk.2; omega⟩), HB.out⟩

/-- eqExpr's contract at one formula -/
def EqC (e : Ex) : Prop := ∀ (kd : Int) (n : Bool) (xs : List Nat) (m : Bool) (ys : List Nat) (nm : ByteArray) (p q : Int) (ks : List Ex), e = .mk kd n xs m ys nm p q ks → ∀ (X Y : Nat → Prop) (a1 : Option Addr) (c1 : Nat) (a2 : Option Addr) (c2 : Nat) (a : Option Addr) (c : Nat) (b1 : Option Addr) (d1 : Nat) (b2 : Option Addr) (d2 : Nat) (b : Option Addr) (d : Nat) (w : World), Seg w a1 xs.length c1 xs → Seg w a2 ys.length c2 ys → KSeg w X a ks.length c ks → Seg w b1 xs.length d1 xs → Seg w b2 ys.length d2 ys → KSeg w Y b ks.length d ks →
    Calls Tryz.prog 9 #[Value.agg #[Value.int .i64 kd, Value.bool n, Value.slice a1 xs.length c1, Value.bool m, Value.slice a2 ys.length c2, Value.string nm, Value.int .i64 p, Value.int .i64 q, Value.slice a ks.length c], Value.agg #[Value.int .i64 kd, Value.bool n, Value.slice b1 xs.length d1, Value.bool m, Value.slice b2 ys.length d2, Value.string nm, Value.int .i64 p, Value.int .i64 q, Value.slice b ks.length d]] w fun e' w' => e' = .returned (.bool true) ∧ Below w.heap.size w w'


set_option maxHeartbeats 8000000 in
set_option maxRecDepth 20000 in
theorem eqExS (aa bb : Option Addr) (nn ca cb : Nat) (X Y : Nat → Prop) (rs : List Ex) (w : World) (h1 : KSeg w X aa nn ca rs) (h2 : KSeg w Y bb nn cb rs) (IH : ∀ r ∈ rs, EqC r) :
    Calls Tryz.prog 19 #[.slice aa nn ca, .slice bb nn cb] w fun e w' => e = .returned (.bool true) ∧ Below w.heap.size w w' := by
  have hxl := h1.1
  have hca := h1.2.1
  have hcma := h1.2.2.1
  have hcb := h2.2.1
  have hcmb := h2.2.2.1
  have HA := hide h1
  have HBB := hide h2
  clear h1 h2
  go_enter Tryz.func19, Tryz.ntmps19
  go_wp2
  go_loopw [5] (fun i wr => ∃ k : Nat, k ≤ nn ∧ i = .int .i64 k ∧ Hid (Below w.heap.size w wr)) (fun i _ => nn - (intOf i).toNat)
  case atStart => exact ⟨0, Nat.zero_le _, rfl, hide (bl_refl w)⟩
  case round =>
    obtain ⟨k, hk, rfl, hb⟩ := hrel
    by_cases hlt : k < nn
    · have hlt' : (k : Int) < (nn : Int) := by omega
      have hkx : k < rs.length := by omega
      obtain ⟨g, o, rfl, hg, _, hrec⟩ := (HA.out.below hb.out).at hkx
      obtain ⟨g2, o2, rfl, hg2, _, hrec2⟩ := (HBB.out.below hb.out).at hkx
      have HC := hide (IH rs[k] (List.getElem_mem _))
      obtain ⟨r, er⟩ : ∃ r, rs[k] = r := ⟨_, rfl⟩
      rw [er] at hrec hrec2 HC
      clear er
      obtain ⟨kd, n, xs, m, ys, nm, p, q, ks⟩ := r
      obtain ⟨a1, c1, a2, c2, a, c, t0, t1, t2, t3, t4, t5, t6, t7, t8, sg1, sg2, sg3, sgn⟩ := openEx hrec
      have H1 := hide sg1
      have H2 := hide sg2
      have H3 := hide sg3
      clear sg1 sg2 sg3
      obtain ⟨b1, d1, b2, d2, b, d, u0, u1, u2, u3, u4, u5, u6, u7, u8, rg1, rg2, rg3, rgn⟩ := openEx hrec2
      have R1 := hide rg1
      have R2 := hide rg2
      have R3 := hide rg3
      clear rg1 rg2 rg3
      go_wp2_with fail
      go_region_held3 (fun w' => w'.cell? ⟨g, o + k * 9, none⟩ = some (Value.int .i64 kd) ∧ w'.cell? ⟨g, o + k * 9 + 1, none⟩ = some (Value.bool n) ∧ w'.cell? ⟨g, o + k * 9 + 2, none⟩ = some (Value.slice a1 xs.length c1) ∧ w'.cell? ⟨g, o + k * 9 + 3, none⟩ = some (Value.bool m) ∧ w'.cell? ⟨g, o + k * 9 + 4, none⟩ = some (Value.slice a2 ys.length c2) ∧ w'.cell? ⟨g, o + k * 9 + 5, none⟩ = some (Value.string nm) ∧ w'.cell? ⟨g, o + k * 9 + 6, none⟩ = some (Value.int .i64 p) ∧ w'.cell? ⟨g, o + k * 9 + 7, none⟩ = some (Value.int .i64 q) ∧ w'.cell? ⟨g, o + k * 9 + 8, none⟩ = some (Value.slice a ks.length c) ∧ w'.cell? ⟨g2, o2 + k * 9, none⟩ = some (Value.int .i64 kd) ∧ w'.cell? ⟨g2, o2 + k * 9 + 1, none⟩ = some (Value.bool n) ∧ w'.cell? ⟨g2, o2 + k * 9 + 2, none⟩ = some (Value.slice b1 xs.length d1) ∧ w'.cell? ⟨g2, o2 + k * 9 + 3, none⟩ = some (Value.bool m) ∧ w'.cell? ⟨g2, o2 + k * 9 + 4, none⟩ = some (Value.slice b2 ys.length d2) ∧ w'.cell? ⟨g2, o2 + k * 9 + 5, none⟩ = some (Value.string nm) ∧ w'.cell? ⟨g2, o2 + k * 9 + 6, none⟩ = some (Value.int .i64 p) ∧ w'.cell? ⟨g2, o2 + k * 9 + 7, none⟩ = some (Value.int .i64 q) ∧ w'.cell? ⟨g2, o2 + k * 9 + 8, none⟩ = some (Value.slice b ks.length d))
        (first
          | exact ⟨t0, t1, t2, t3, t4, t5, t6, t7, t8, u0, u1, u2, u3, u4, u5, u6, u7, u8⟩
          | exact ⟨(hb2.cell (p := ⟨g, o + k * 9, none⟩) hg).trans t0, (hb2.cell (p := ⟨g, o + k * 9 + 1, none⟩) hg).trans t1, (hb2.cell (p := ⟨g, o + k * 9 + 2, none⟩) hg).trans t2, (hb2.cell (p := ⟨g, o + k * 9 + 3, none⟩) hg).trans t3, (hb2.cell (p := ⟨g, o + k * 9 + 4, none⟩) hg).trans t4, (hb2.cell (p := ⟨g, o + k * 9 + 5, none⟩) hg).trans t5, (hb2.cell (p := ⟨g, o + k * 9 + 6, none⟩) hg).trans t6, (hb2.cell (p := ⟨g, o + k * 9 + 7, none⟩) hg).trans t7, (hb2.cell (p := ⟨g, o + k * 9 + 8, none⟩) hg).trans t8, (hb2.cell (p := ⟨g2, o2 + k * 9, none⟩) hg2).trans u0, (hb2.cell (p := ⟨g2, o2 + k * 9 + 1, none⟩) hg2).trans u1, (hb2.cell (p := ⟨g2, o2 + k * 9 + 2, none⟩) hg2).trans u2, (hb2.cell (p := ⟨g2, o2 + k * 9 + 3, none⟩) hg2).trans u3, (hb2.cell (p := ⟨g2, o2 + k * 9 + 4, none⟩) hg2).trans u4, (hb2.cell (p := ⟨g2, o2 + k * 9 + 5, none⟩) hg2).trans u5, (hb2.cell (p := ⟨g2, o2 + k * 9 + 6, none⟩) hg2).trans u6, (hb2.cell (p := ⟨g2, o2 + k * 9 + 7, none⟩) hg2).trans u7, (hb2.cell (p := ⟨g2, o2 + k * 9 + 8, none⟩) hg2).trans u8⟩)
        (first
          | (go_at_call 9; refine (HC.out kd n xs m ys nm p q ks rfl X Y a1 c1 a2 c2 a c b1 d1 b2 d2 b d _ (H1.out.below (bl_refl wr).drew) (H2.out.below (bl_refl wr).drew) (H3.out.below (bl_refl wr).drew) (R1.out.below (bl_refl wr).drew) (R2.out.below (bl_refl wr).drew) (R3.out.below (bl_refl wr).drew)).mono ?_; rintro e w2 ⟨rfl, hb2'⟩; have hb2 : Below wr.heap.size wr w2 := (bl_refl wr).drew.trans hb2'))
      all_goals go_wp2
      all_goals exact ⟨⟨k + 1, by omega, by go_num, hide (bl_trans hb.out hb2)⟩, by simp [intOf]; omega⟩
    · obtain rfl : k = nn := by omega
      go_wp2
      go_ret
      exact ⟨rfl, hb.out⟩


set_option maxHeartbeats 8000000 in
set_option maxRecDepth 20000 in
theorem eqEx : ∀ (N : Nat) (e : Ex), e.cnt ≤ N → EqC e
  | 0, e, h => by rw [cnt_ks] at h; omega
  | N + 1, .mk kd n xs m ys nm p q ks, h => by
    rw [cnt_ks] at h
    have IH : ∀ r ∈ ks, EqC r := fun r hr => eqEx N r (by have := kcnt_mem hr; have h2 : 1 + kcnt ks ≤ N + 1 := h; omega)
    clear h
    intro kd' n' xs' m' ys' nm' p' q' ks' heq X Y a1 c1 a2 c2 a c b1 d1 b2 d2 b d w s1 s2 s3 r1 r2 r3
    cases heq
    have S1 := hide s1
    have S2 := hide s2
    have S3 := hide s3
    have R1 := hide r1
    have R2 := hide r2
    have R3 := hide r3
    clear s1 s2 s3 r1 r2 r3
    have Xa : Hid (((w.alloc (Obj.cells #[Value.int .i64 kd, Value.bool n, Value.slice a1 xs.length c1, Value.bool m, Value.slice a2 ys.length c2, Value.string nm, Value.int .i64 p, Value.int .i64 q, Value.slice a ks.length c] 37)).alloc (Obj.cells #[Value.int .i64 kd, Value.bool n, Value.slice b1 xs.length d1, Value.bool m, Value.slice b2 ys.length d2, Value.string nm, Value.int .i64 p, Value.int .i64 q, Value.slice b ks.length d] 37)).heap[w.heap.size]? = some (.cells #[Value.int .i64 kd, Value.bool n, Value.slice a1 xs.length c1, Value.bool m, Value.slice a2 ys.length c2, Value.string nm, Value.int .i64 p, Value.int .i64 q, Value.slice a ks.length c] 37 (0, 0))) := hide (by simpa only [World.size_alloc] using (hnewer (hnew w (Obj.cells #[Value.int .i64 kd, Value.bool n, Value.slice a1 xs.length c1, Value.bool m, Value.slice a2 ys.length c2, Value.string nm, Value.int .i64 p, Value.int .i64 q, Value.slice a ks.length c] 37)) (Obj.cells #[Value.int .i64 kd, Value.bool n, Value.slice b1 xs.length d1, Value.bool m, Value.slice b2 ys.length d2, Value.string nm, Value.int .i64 p, Value.int .i64 q, Value.slice b ks.length d] 37)))
    have Xb : Hid (((w.alloc (Obj.cells #[Value.int .i64 kd, Value.bool n, Value.slice a1 xs.length c1, Value.bool m, Value.slice a2 ys.length c2, Value.string nm, Value.int .i64 p, Value.int .i64 q, Value.slice a ks.length c] 37)).alloc (Obj.cells #[Value.int .i64 kd, Value.bool n, Value.slice b1 xs.length d1, Value.bool m, Value.slice b2 ys.length d2, Value.string nm, Value.int .i64 p, Value.int .i64 q, Value.slice b ks.length d] 37)).heap[w.heap.size + 1]? = some (.cells #[Value.int .i64 kd, Value.bool n, Value.slice b1 xs.length d1, Value.bool m, Value.slice b2 ys.length d2, Value.string nm, Value.int .i64 p, Value.int .i64 q, Value.slice b ks.length d] 37 (0, 0))) := hide (by simpa only [World.size_alloc] using (hnew (w.alloc (Obj.cells #[Value.int .i64 kd, Value.bool n, Value.slice a1 xs.length c1, Value.bool m, Value.slice a2 ys.length c2, Value.string nm, Value.int .i64 p, Value.int .i64 q, Value.slice a ks.length c] 37)) (Obj.cells #[Value.int .i64 kd, Value.bool n, Value.slice b1 xs.length d1, Value.bool m, Value.slice b2 ys.length d2, Value.string nm, Value.int .i64 p, Value.int .i64 q, Value.slice b ks.length d] 37)))
    have HB : Hid (Below w.heap.size w ((w.alloc (Obj.cells #[Value.int .i64 kd, Value.bool n, Value.slice a1 xs.length c1, Value.bool m, Value.slice a2 ys.length c2, Value.string nm, Value.int .i64 p, Value.int .i64 q, Value.slice a ks.length c] 37)).alloc (Obj.cells #[Value.int .i64 kd, Value.bool n, Value.slice b1 xs.length d1, Value.bool m, Value.slice b2 ys.length d2, Value.string nm, Value.int .i64 p, Value.int .i64 q, Value.slice b ks.length d] 37))) := hide (bl_alloc (bl_alloc (bl_refl w) (Obj.cells #[Value.int .i64 kd, Value.bool n, Value.slice a1 xs.length c1, Value.bool m, Value.slice a2 ys.length c2, Value.string nm, Value.int .i64 p, Value.int .i64 q, Value.slice a ks.length c] 37)) (Obj.cells #[Value.int .i64 kd, Value.bool n, Value.slice b1 xs.length d1, Value.bool m, Value.slice b2 ys.length d2, Value.string nm, Value.int .i64 p, Value.int .i64 q, Value.slice b ks.length d] 37))
    have yw1 : w.heap.size + 2 ≤ ((w.alloc (Obj.cells #[Value.int .i64 kd, Value.bool n, Value.slice a1 xs.length c1, Value.bool m, Value.slice a2 ys.length c2, Value.string nm, Value.int .i64 p, Value.int .i64 q, Value.slice a ks.length c] 37)).alloc (Obj.cells #[Value.int .i64 kd, Value.bool n, Value.slice b1 xs.length d1, Value.bool m, Value.slice b2 ys.length d2, Value.string nm, Value.int .i64 p, Value.int .i64 q, Value.slice b ks.length d] 37)).heap.size := by simp only [World.size_alloc]; omega
    have ka0 : ((w.alloc (Obj.cells #[Value.int .i64 kd, Value.bool n, Value.slice a1 xs.length c1, Value.bool m, Value.slice a2 ys.length c2, Value.string nm, Value.int .i64 p, Value.int .i64 q, Value.slice a ks.length c] 37)).alloc (Obj.cells #[Value.int .i64 kd, Value.bool n, Value.slice b1 xs.length d1, Value.bool m, Value.slice b2 ys.length d2, Value.string nm, Value.int .i64 p, Value.int .i64 q, Value.slice b ks.length d] 37)).cell? ⟨w.heap.size, 0, none⟩ = some (Value.int .i64 kd) := (Lib.cell_of_heap Xa.out 0).trans rfl
    have fa0 : ((w.alloc (Obj.cells #[Value.int .i64 kd, Value.bool n, Value.slice a1 xs.length c1, Value.bool m, Value.slice a2 ys.length c2, Value.string nm, Value.int .i64 p, Value.int .i64 q, Value.slice a ks.length c] 37)).alloc (Obj.cells #[Value.int .i64 kd, Value.bool n, Value.slice b1 xs.length d1, Value.bool m, Value.slice b2 ys.length d2, Value.string nm, Value.int .i64 p, Value.int .i64 q, Value.slice b ks.length d] 37)).frozen? ⟨w.heap.size, 0, none⟩ = false := Lib.frozen_of_heap Xa.out 0
    have ka1 : ((w.alloc (Obj.cells #[Value.int .i64 kd, Value.bool n, Value.slice a1 xs.length c1, Value.bool m, Value.slice a2 ys.length c2, Value.string nm, Value.int .i64 p, Value.int .i64 q, Value.slice a ks.length c] 37)).alloc (Obj.cells #[Value.int .i64 kd, Value.bool n, Value.slice b1 xs.length d1, Value.bool m, Value.slice b2 ys.length d2, Value.string nm, Value.int .i64 p, Value.int .i64 q, Value.slice b ks.length d] 37)).cell? ⟨w.heap.size, 1, none⟩ = some (Value.bool n) := (Lib.cell_of_heap Xa.out 1).trans rfl
    have fa1 : ((w.alloc (Obj.cells #[Value.int .i64 kd, Value.bool n, Value.slice a1 xs.length c1, Value.bool m, Value.slice a2 ys.length c2, Value.string nm, Value.int .i64 p, Value.int .i64 q, Value.slice a ks.length c] 37)).alloc (Obj.cells #[Value.int .i64 kd, Value.bool n, Value.slice b1 xs.length d1, Value.bool m, Value.slice b2 ys.length d2, Value.string nm, Value.int .i64 p, Value.int .i64 q, Value.slice b ks.length d] 37)).frozen? ⟨w.heap.size, 1, none⟩ = false := Lib.frozen_of_heap Xa.out 1
    have ka2 : ((w.alloc (Obj.cells #[Value.int .i64 kd, Value.bool n, Value.slice a1 xs.length c1, Value.bool m, Value.slice a2 ys.length c2, Value.string nm, Value.int .i64 p, Value.int .i64 q, Value.slice a ks.length c] 37)).alloc (Obj.cells #[Value.int .i64 kd, Value.bool n, Value.slice b1 xs.length d1, Value.bool m, Value.slice b2 ys.length d2, Value.string nm, Value.int .i64 p, Value.int .i64 q, Value.slice b ks.length d] 37)).cell? ⟨w.heap.size, 2, none⟩ = some (Value.slice a1 xs.length c1) := (Lib.cell_of_heap Xa.out 2).trans rfl
    have fa2 : ((w.alloc (Obj.cells #[Value.int .i64 kd, Value.bool n, Value.slice a1 xs.length c1, Value.bool m, Value.slice a2 ys.length c2, Value.string nm, Value.int .i64 p, Value.int .i64 q, Value.slice a ks.length c] 37)).alloc (Obj.cells #[Value.int .i64 kd, Value.bool n, Value.slice b1 xs.length d1, Value.bool m, Value.slice b2 ys.length d2, Value.string nm, Value.int .i64 p, Value.int .i64 q, Value.slice b ks.length d] 37)).frozen? ⟨w.heap.size, 2, none⟩ = false := Lib.frozen_of_heap Xa.out 2
    have ka3 : ((w.alloc (Obj.cells #[Value.int .i64 kd, Value.bool n, Value.slice a1 xs.length c1, Value.bool m, Value.slice a2 ys.length c2, Value.string nm, Value.int .i64 p, Value.int .i64 q, Value.slice a ks.length c] 37)).alloc (Obj.cells #[Value.int .i64 kd, Value.bool n, Value.slice b1 xs.length d1, Value.bool m, Value.slice b2 ys.length d2, Value.string nm, Value.int .i64 p, Value.int .i64 q, Value.slice b ks.length d] 37)).cell? ⟨w.heap.size, 3, none⟩ = some (Value.bool m) := (Lib.cell_of_heap Xa.out 3).trans rfl
    have fa3 : ((w.alloc (Obj.cells #[Value.int .i64 kd, Value.bool n, Value.slice a1 xs.length c1, Value.bool m, Value.slice a2 ys.length c2, Value.string nm, Value.int .i64 p, Value.int .i64 q, Value.slice a ks.length c] 37)).alloc (Obj.cells #[Value.int .i64 kd, Value.bool n, Value.slice b1 xs.length d1, Value.bool m, Value.slice b2 ys.length d2, Value.string nm, Value.int .i64 p, Value.int .i64 q, Value.slice b ks.length d] 37)).frozen? ⟨w.heap.size, 3, none⟩ = false := Lib.frozen_of_heap Xa.out 3
    have ka4 : ((w.alloc (Obj.cells #[Value.int .i64 kd, Value.bool n, Value.slice a1 xs.length c1, Value.bool m, Value.slice a2 ys.length c2, Value.string nm, Value.int .i64 p, Value.int .i64 q, Value.slice a ks.length c] 37)).alloc (Obj.cells #[Value.int .i64 kd, Value.bool n, Value.slice b1 xs.length d1, Value.bool m, Value.slice b2 ys.length d2, Value.string nm, Value.int .i64 p, Value.int .i64 q, Value.slice b ks.length d] 37)).cell? ⟨w.heap.size, 4, none⟩ = some (Value.slice a2 ys.length c2) := (Lib.cell_of_heap Xa.out 4).trans rfl
    have fa4 : ((w.alloc (Obj.cells #[Value.int .i64 kd, Value.bool n, Value.slice a1 xs.length c1, Value.bool m, Value.slice a2 ys.length c2, Value.string nm, Value.int .i64 p, Value.int .i64 q, Value.slice a ks.length c] 37)).alloc (Obj.cells #[Value.int .i64 kd, Value.bool n, Value.slice b1 xs.length d1, Value.bool m, Value.slice b2 ys.length d2, Value.string nm, Value.int .i64 p, Value.int .i64 q, Value.slice b ks.length d] 37)).frozen? ⟨w.heap.size, 4, none⟩ = false := Lib.frozen_of_heap Xa.out 4
    have ka5 : ((w.alloc (Obj.cells #[Value.int .i64 kd, Value.bool n, Value.slice a1 xs.length c1, Value.bool m, Value.slice a2 ys.length c2, Value.string nm, Value.int .i64 p, Value.int .i64 q, Value.slice a ks.length c] 37)).alloc (Obj.cells #[Value.int .i64 kd, Value.bool n, Value.slice b1 xs.length d1, Value.bool m, Value.slice b2 ys.length d2, Value.string nm, Value.int .i64 p, Value.int .i64 q, Value.slice b ks.length d] 37)).cell? ⟨w.heap.size, 5, none⟩ = some (Value.string nm) := (Lib.cell_of_heap Xa.out 5).trans rfl
    have fa5 : ((w.alloc (Obj.cells #[Value.int .i64 kd, Value.bool n, Value.slice a1 xs.length c1, Value.bool m, Value.slice a2 ys.length c2, Value.string nm, Value.int .i64 p, Value.int .i64 q, Value.slice a ks.length c] 37)).alloc (Obj.cells #[Value.int .i64 kd, Value.bool n, Value.slice b1 xs.length d1, Value.bool m, Value.slice b2 ys.length d2, Value.string nm, Value.int .i64 p, Value.int .i64 q, Value.slice b ks.length d] 37)).frozen? ⟨w.heap.size, 5, none⟩ = false := Lib.frozen_of_heap Xa.out 5
    have ka6 : ((w.alloc (Obj.cells #[Value.int .i64 kd, Value.bool n, Value.slice a1 xs.length c1, Value.bool m, Value.slice a2 ys.length c2, Value.string nm, Value.int .i64 p, Value.int .i64 q, Value.slice a ks.length c] 37)).alloc (Obj.cells #[Value.int .i64 kd, Value.bool n, Value.slice b1 xs.length d1, Value.bool m, Value.slice b2 ys.length d2, Value.string nm, Value.int .i64 p, Value.int .i64 q, Value.slice b ks.length d] 37)).cell? ⟨w.heap.size, 6, none⟩ = some (Value.int .i64 p) := (Lib.cell_of_heap Xa.out 6).trans rfl
    have fa6 : ((w.alloc (Obj.cells #[Value.int .i64 kd, Value.bool n, Value.slice a1 xs.length c1, Value.bool m, Value.slice a2 ys.length c2, Value.string nm, Value.int .i64 p, Value.int .i64 q, Value.slice a ks.length c] 37)).alloc (Obj.cells #[Value.int .i64 kd, Value.bool n, Value.slice b1 xs.length d1, Value.bool m, Value.slice b2 ys.length d2, Value.string nm, Value.int .i64 p, Value.int .i64 q, Value.slice b ks.length d] 37)).frozen? ⟨w.heap.size, 6, none⟩ = false := Lib.frozen_of_heap Xa.out 6
    have ka7 : ((w.alloc (Obj.cells #[Value.int .i64 kd, Value.bool n, Value.slice a1 xs.length c1, Value.bool m, Value.slice a2 ys.length c2, Value.string nm, Value.int .i64 p, Value.int .i64 q, Value.slice a ks.length c] 37)).alloc (Obj.cells #[Value.int .i64 kd, Value.bool n, Value.slice b1 xs.length d1, Value.bool m, Value.slice b2 ys.length d2, Value.string nm, Value.int .i64 p, Value.int .i64 q, Value.slice b ks.length d] 37)).cell? ⟨w.heap.size, 7, none⟩ = some (Value.int .i64 q) := (Lib.cell_of_heap Xa.out 7).trans rfl
    have fa7 : ((w.alloc (Obj.cells #[Value.int .i64 kd, Value.bool n, Value.slice a1 xs.length c1, Value.bool m, Value.slice a2 ys.length c2, Value.string nm, Value.int .i64 p, Value.int .i64 q, Value.slice a ks.length c] 37)).alloc (Obj.cells #[Value.int .i64 kd, Value.bool n, Value.slice b1 xs.length d1, Value.bool m, Value.slice b2 ys.length d2, Value.string nm, Value.int .i64 p, Value.int .i64 q, Value.slice b ks.length d] 37)).frozen? ⟨w.heap.size, 7, none⟩ = false := Lib.frozen_of_heap Xa.out 7
    have ka8 : ((w.alloc (Obj.cells #[Value.int .i64 kd, Value.bool n, Value.slice a1 xs.length c1, Value.bool m, Value.slice a2 ys.length c2, Value.string nm, Value.int .i64 p, Value.int .i64 q, Value.slice a ks.length c] 37)).alloc (Obj.cells #[Value.int .i64 kd, Value.bool n, Value.slice b1 xs.length d1, Value.bool m, Value.slice b2 ys.length d2, Value.string nm, Value.int .i64 p, Value.int .i64 q, Value.slice b ks.length d] 37)).cell? ⟨w.heap.size, 8, none⟩ = some (Value.slice a ks.length c) := (Lib.cell_of_heap Xa.out 8).trans rfl
    have fa8 : ((w.alloc (Obj.cells #[Value.int .i64 kd, Value.bool n, Value.slice a1 xs.length c1, Value.bool m, Value.slice a2 ys.length c2, Value.string nm, Value.int .i64 p, Value.int .i64 q, Value.slice a ks.length c] 37)).alloc (Obj.cells #[Value.int .i64 kd, Value.bool n, Value.slice b1 xs.length d1, Value.bool m, Value.slice b2 ys.length d2, Value.string nm, Value.int .i64 p, Value.int .i64 q, Value.slice b ks.length d] 37)).frozen? ⟨w.heap.size, 8, none⟩ = false := Lib.frozen_of_heap Xa.out 8
    have za : w.heap.size < ((w.alloc (Obj.cells #[Value.int .i64 kd, Value.bool n, Value.slice a1 xs.length c1, Value.bool m, Value.slice a2 ys.length c2, Value.string nm, Value.int .i64 p, Value.int .i64 q, Value.slice a ks.length c] 37)).alloc (Obj.cells #[Value.int .i64 kd, Value.bool n, Value.slice b1 xs.length d1, Value.bool m, Value.slice b2 ys.length d2, Value.string nm, Value.int .i64 p, Value.int .i64 q, Value.slice b ks.length d] 37)).heap.size := hlt Xa.out
    have kb0 : ((w.alloc (Obj.cells #[Value.int .i64 kd, Value.bool n, Value.slice a1 xs.length c1, Value.bool m, Value.slice a2 ys.length c2, Value.string nm, Value.int .i64 p, Value.int .i64 q, Value.slice a ks.length c] 37)).alloc (Obj.cells #[Value.int .i64 kd, Value.bool n, Value.slice b1 xs.length d1, Value.bool m, Value.slice b2 ys.length d2, Value.string nm, Value.int .i64 p, Value.int .i64 q, Value.slice b ks.length d] 37)).cell? ⟨w.heap.size + 1, 0, none⟩ = some (Value.int .i64 kd) := (Lib.cell_of_heap Xb.out 0).trans rfl
    have fb0 : ((w.alloc (Obj.cells #[Value.int .i64 kd, Value.bool n, Value.slice a1 xs.length c1, Value.bool m, Value.slice a2 ys.length c2, Value.string nm, Value.int .i64 p, Value.int .i64 q, Value.slice a ks.length c] 37)).alloc (Obj.cells #[Value.int .i64 kd, Value.bool n, Value.slice b1 xs.length d1, Value.bool m, Value.slice b2 ys.length d2, Value.string nm, Value.int .i64 p, Value.int .i64 q, Value.slice b ks.length d] 37)).frozen? ⟨w.heap.size + 1, 0, none⟩ = false := Lib.frozen_of_heap Xb.out 0
    have kb1 : ((w.alloc (Obj.cells #[Value.int .i64 kd, Value.bool n, Value.slice a1 xs.length c1, Value.bool m, Value.slice a2 ys.length c2, Value.string nm, Value.int .i64 p, Value.int .i64 q, Value.slice a ks.length c] 37)).alloc (Obj.cells #[Value.int .i64 kd, Value.bool n, Value.slice b1 xs.length d1, Value.bool m, Value.slice b2 ys.length d2, Value.string nm, Value.int .i64 p, Value.int .i64 q, Value.slice b ks.length d] 37)).cell? ⟨w.heap.size + 1, 1, none⟩ = some (Value.bool n) := (Lib.cell_of_heap Xb.out 1).trans rfl
    have fb1 : ((w.alloc (Obj.cells #[Value.int .i64 kd, Value.bool n, Value.slice a1 xs.length c1, Value.bool m, Value.slice a2 ys.length c2, Value.string nm, Value.int .i64 p, Value.int .i64 q, Value.slice a ks.length c] 37)).alloc (Obj.cells #[Value.int .i64 kd, Value.bool n, Value.slice b1 xs.length d1, Value.bool m, Value.slice b2 ys.length d2, Value.string nm, Value.int .i64 p, Value.int .i64 q, Value.slice b ks.length d] 37)).frozen? ⟨w.heap.size + 1, 1, none⟩ = false := Lib.frozen_of_heap Xb.out 1
    have kb2 : ((w.alloc (Obj.cells #[Value.int .i64 kd, Value.bool n, Value.slice a1 xs.length c1, Value.bool m, Value.slice a2 ys.length c2, Value.string nm, Value.int .i64 p, Value.int .i64 q, Value.slice a ks.length c] 37)).alloc (Obj.cells #[Value.int .i64 kd, Value.bool n, Value.slice b1 xs.length d1, Value.bool m, Value.slice b2 ys.length d2, Value.string nm, Value.int .i64 p, Value.int .i64 q, Value.slice b ks.length d] 37)).cell? ⟨w.heap.size + 1, 2, none⟩ = some (Value.slice b1 xs.length d1) := (Lib.cell_of_heap Xb.out 2).trans rfl
    have fb2 : ((w.alloc (Obj.cells #[Value.int .i64 kd, Value.bool n, Value.slice a1 xs.length c1, Value.bool m, Value.slice a2 ys.length c2, Value.string nm, Value.int .i64 p, Value.int .i64 q, Value.slice a ks.length c] 37)).alloc (Obj.cells #[Value.int .i64 kd, Value.bool n, Value.slice b1 xs.length d1, Value.bool m, Value.slice b2 ys.length d2, Value.string nm, Value.int .i64 p, Value.int .i64 q, Value.slice b ks.length d] 37)).frozen? ⟨w.heap.size + 1, 2, none⟩ = false := Lib.frozen_of_heap Xb.out 2
    have kb3 : ((w.alloc (Obj.cells #[Value.int .i64 kd, Value.bool n, Value.slice a1 xs.length c1, Value.bool m, Value.slice a2 ys.length c2, Value.string nm, Value.int .i64 p, Value.int .i64 q, Value.slice a ks.length c] 37)).alloc (Obj.cells #[Value.int .i64 kd, Value.bool n, Value.slice b1 xs.length d1, Value.bool m, Value.slice b2 ys.length d2, Value.string nm, Value.int .i64 p, Value.int .i64 q, Value.slice b ks.length d] 37)).cell? ⟨w.heap.size + 1, 3, none⟩ = some (Value.bool m) := (Lib.cell_of_heap Xb.out 3).trans rfl
    have fb3 : ((w.alloc (Obj.cells #[Value.int .i64 kd, Value.bool n, Value.slice a1 xs.length c1, Value.bool m, Value.slice a2 ys.length c2, Value.string nm, Value.int .i64 p, Value.int .i64 q, Value.slice a ks.length c] 37)).alloc (Obj.cells #[Value.int .i64 kd, Value.bool n, Value.slice b1 xs.length d1, Value.bool m, Value.slice b2 ys.length d2, Value.string nm, Value.int .i64 p, Value.int .i64 q, Value.slice b ks.length d] 37)).frozen? ⟨w.heap.size + 1, 3, none⟩ = false := Lib.frozen_of_heap Xb.out 3
    have kb4 : ((w.alloc (Obj.cells #[Value.int .i64 kd, Value.bool n, Value.slice a1 xs.length c1, Value.bool m, Value.slice a2 ys.length c2, Value.string nm, Value.int .i64 p, Value.int .i64 q, Value.slice a ks.length c] 37)).alloc (Obj.cells #[Value.int .i64 kd, Value.bool n, Value.slice b1 xs.length d1, Value.bool m, Value.slice b2 ys.length d2, Value.string nm, Value.int .i64 p, Value.int .i64 q, Value.slice b ks.length d] 37)).cell? ⟨w.heap.size + 1, 4, none⟩ = some (Value.slice b2 ys.length d2) := (Lib.cell_of_heap Xb.out 4).trans rfl
    have fb4 : ((w.alloc (Obj.cells #[Value.int .i64 kd, Value.bool n, Value.slice a1 xs.length c1, Value.bool m, Value.slice a2 ys.length c2, Value.string nm, Value.int .i64 p, Value.int .i64 q, Value.slice a ks.length c] 37)).alloc (Obj.cells #[Value.int .i64 kd, Value.bool n, Value.slice b1 xs.length d1, Value.bool m, Value.slice b2 ys.length d2, Value.string nm, Value.int .i64 p, Value.int .i64 q, Value.slice b ks.length d] 37)).frozen? ⟨w.heap.size + 1, 4, none⟩ = false := Lib.frozen_of_heap Xb.out 4
    have kb5 : ((w.alloc (Obj.cells #[Value.int .i64 kd, Value.bool n, Value.slice a1 xs.length c1, Value.bool m, Value.slice a2 ys.length c2, Value.string nm, Value.int .i64 p, Value.int .i64 q, Value.slice a ks.length c] 37)).alloc (Obj.cells #[Value.int .i64 kd, Value.bool n, Value.slice b1 xs.length d1, Value.bool m, Value.slice b2 ys.length d2, Value.string nm, Value.int .i64 p, Value.int .i64 q, Value.slice b ks.length d] 37)).cell? ⟨w.heap.size + 1, 5, none⟩ = some (Value.string nm) := (Lib.cell_of_heap Xb.out 5).trans rfl
    have fb5 : ((w.alloc (Obj.cells #[Value.int .i64 kd, Value.bool n, Value.slice a1 xs.length c1, Value.bool m, Value.slice a2 ys.length c2, Value.string nm, Value.int .i64 p, Value.int .i64 q, Value.slice a ks.length c] 37)).alloc (Obj.cells #[Value.int .i64 kd, Value.bool n, Value.slice b1 xs.length d1, Value.bool m, Value.slice b2 ys.length d2, Value.string nm, Value.int .i64 p, Value.int .i64 q, Value.slice b ks.length d] 37)).frozen? ⟨w.heap.size + 1, 5, none⟩ = false := Lib.frozen_of_heap Xb.out 5
    have kb6 : ((w.alloc (Obj.cells #[Value.int .i64 kd, Value.bool n, Value.slice a1 xs.length c1, Value.bool m, Value.slice a2 ys.length c2, Value.string nm, Value.int .i64 p, Value.int .i64 q, Value.slice a ks.length c] 37)).alloc (Obj.cells #[Value.int .i64 kd, Value.bool n, Value.slice b1 xs.length d1, Value.bool m, Value.slice b2 ys.length d2, Value.string nm, Value.int .i64 p, Value.int .i64 q, Value.slice b ks.length d] 37)).cell? ⟨w.heap.size + 1, 6, none⟩ = some (Value.int .i64 p) := (Lib.cell_of_heap Xb.out 6).trans rfl
    have fb6 : ((w.alloc (Obj.cells #[Value.int .i64 kd, Value.bool n, Value.slice a1 xs.length c1, Value.bool m, Value.slice a2 ys.length c2, Value.string nm, Value.int .i64 p, Value.int .i64 q, Value.slice a ks.length c] 37)).alloc (Obj.cells #[Value.int .i64 kd, Value.bool n, Value.slice b1 xs.length d1, Value.bool m, Value.slice b2 ys.length d2, Value.string nm, Value.int .i64 p, Value.int .i64 q, Value.slice b ks.length d] 37)).frozen? ⟨w.heap.size + 1, 6, none⟩ = false := Lib.frozen_of_heap Xb.out 6
    have kb7 : ((w.alloc (Obj.cells #[Value.int .i64 kd, Value.bool n, Value.slice a1 xs.length c1, Value.bool m, Value.slice a2 ys.length c2, Value.string nm, Value.int .i64 p, Value.int .i64 q, Value.slice a ks.length c] 37)).alloc (Obj.cells #[Value.int .i64 kd, Value.bool n, Value.slice b1 xs.length d1, Value.bool m, Value.slice b2 ys.length d2, Value.string nm, Value.int .i64 p, Value.int .i64 q, Value.slice b ks.length d] 37)).cell? ⟨w.heap.size + 1, 7, none⟩ = some (Value.int .i64 q) := (Lib.cell_of_heap Xb.out 7).trans rfl
    have fb7 : ((w.alloc (Obj.cells #[Value.int .i64 kd, Value.bool n, Value.slice a1 xs.length c1, Value.bool m, Value.slice a2 ys.length c2, Value.string nm, Value.int .i64 p, Value.int .i64 q, Value.slice a ks.length c] 37)).alloc (Obj.cells #[Value.int .i64 kd, Value.bool n, Value.slice b1 xs.length d1, Value.bool m, Value.slice b2 ys.length d2, Value.string nm, Value.int .i64 p, Value.int .i64 q, Value.slice b ks.length d] 37)).frozen? ⟨w.heap.size + 1, 7, none⟩ = false := Lib.frozen_of_heap Xb.out 7
    have kb8 : ((w.alloc (Obj.cells #[Value.int .i64 kd, Value.bool n, Value.slice a1 xs.length c1, Value.bool m, Value.slice a2 ys.length c2, Value.string nm, Value.int .i64 p, Value.int .i64 q, Value.slice a ks.length c] 37)).alloc (Obj.cells #[Value.int .i64 kd, Value.bool n, Value.slice b1 xs.length d1, Value.bool m, Value.slice b2 ys.length d2, Value.string nm, Value.int .i64 p, Value.int .i64 q, Value.slice b ks.length d] 37)).cell? ⟨w.heap.size + 1, 8, none⟩ = some (Value.slice b ks.length d) := (Lib.cell_of_heap Xb.out 8).trans rfl
    have fb8 : ((w.alloc (Obj.cells #[Value.int .i64 kd, Value.bool n, Value.slice a1 xs.length c1, Value.bool m, Value.slice a2 ys.length c2, Value.string nm, Value.int .i64 p, Value.int .i64 q, Value.slice a ks.length c] 37)).alloc (Obj.cells #[Value.int .i64 kd, Value.bool n, Value.slice b1 xs.length d1, Value.bool m, Value.slice b2 ys.length d2, Value.string nm, Value.int .i64 p, Value.int .i64 q, Value.slice b ks.length d] 37)).frozen? ⟨w.heap.size + 1, 8, none⟩ = false := Lib.frozen_of_heap Xb.out 8
    have zb : w.heap.size + 1 < ((w.alloc (Obj.cells #[Value.int .i64 kd, Value.bool n, Value.slice a1 xs.length c1, Value.bool m, Value.slice a2 ys.length c2, Value.string nm, Value.int .i64 p, Value.int .i64 q, Value.slice a ks.length c] 37)).alloc (Obj.cells #[Value.int .i64 kd, Value.bool n, Value.slice b1 xs.length d1, Value.bool m, Value.slice b2 ys.length d2, Value.string nm, Value.int .i64 p, Value.int .i64 q, Value.slice b ks.length d] 37)).heap.size := hlt Xb.out
    go_enter Tryz.func9, Tryz.ntmps9
    go_wp2_with fail
    generalize ((w.alloc (Obj.cells #[Value.int .i64 kd, Value.bool n, Value.slice a1 xs.length c1, Value.bool m, Value.slice a2 ys.length c2, Value.string nm, Value.int .i64 p, Value.int .i64 q, Value.slice a ks.length c] 37)).alloc (Obj.cells #[Value.int .i64 kd, Value.bool n, Value.slice b1 xs.length d1, Value.bool m, Value.slice b2 ys.length d2, Value.string nm, Value.int .i64 p, Value.int .i64 q, Value.slice b ks.length d] 37)) = w1 at *
    refine (eqR n xs m ys a1 c1 a2 c2 b1 d1 b2 d2 _ (S1.out.below HB.out) (S2.out.below HB.out) (R1.out.below HB.out) (R2.out.below HB.out)).mono ?_
    rintro e w2 ⟨rfl, hb⟩
    have yw2 := hb.size
    clear ka0 fa0 ka1 fa1 ka2 fa2 ka3 fa3 ka4 fa4 ka5 fa5 ka6 fa6 ka7 fa7 ka8 fa8 za
    clear kb0 fb0 kb1 fb1 kb2 fb2 kb3 fb3 kb4 fb4 kb5 fb5 kb6 fb6 kb7 fb7 kb8 fb8 zb
    replace Xa := hide (hbel Xa.out hb (by first | assumption | omega))
    replace Xb := hide (hbel Xb.out hb (by first | assumption | omega))
    replace HB := hide (bl_trans HB.out hb)
    clear hb
    have ka0 : w2.cell? ⟨w.heap.size, 0, none⟩ = some (Value.int .i64 kd) := (Lib.cell_of_heap Xa.out 0).trans rfl
    have fa0 : w2.frozen? ⟨w.heap.size, 0, none⟩ = false := Lib.frozen_of_heap Xa.out 0
    have ka1 : w2.cell? ⟨w.heap.size, 1, none⟩ = some (Value.bool n) := (Lib.cell_of_heap Xa.out 1).trans rfl
    have fa1 : w2.frozen? ⟨w.heap.size, 1, none⟩ = false := Lib.frozen_of_heap Xa.out 1
    have ka2 : w2.cell? ⟨w.heap.size, 2, none⟩ = some (Value.slice a1 xs.length c1) := (Lib.cell_of_heap Xa.out 2).trans rfl
    have fa2 : w2.frozen? ⟨w.heap.size, 2, none⟩ = false := Lib.frozen_of_heap Xa.out 2
    have ka3 : w2.cell? ⟨w.heap.size, 3, none⟩ = some (Value.bool m) := (Lib.cell_of_heap Xa.out 3).trans rfl
    have fa3 : w2.frozen? ⟨w.heap.size, 3, none⟩ = false := Lib.frozen_of_heap Xa.out 3
    have ka4 : w2.cell? ⟨w.heap.size, 4, none⟩ = some (Value.slice a2 ys.length c2) := (Lib.cell_of_heap Xa.out 4).trans rfl
    have fa4 : w2.frozen? ⟨w.heap.size, 4, none⟩ = false := Lib.frozen_of_heap Xa.out 4
    have ka5 : w2.cell? ⟨w.heap.size, 5, none⟩ = some (Value.string nm) := (Lib.cell_of_heap Xa.out 5).trans rfl
    have fa5 : w2.frozen? ⟨w.heap.size, 5, none⟩ = false := Lib.frozen_of_heap Xa.out 5
    have ka6 : w2.cell? ⟨w.heap.size, 6, none⟩ = some (Value.int .i64 p) := (Lib.cell_of_heap Xa.out 6).trans rfl
    have fa6 : w2.frozen? ⟨w.heap.size, 6, none⟩ = false := Lib.frozen_of_heap Xa.out 6
    have ka7 : w2.cell? ⟨w.heap.size, 7, none⟩ = some (Value.int .i64 q) := (Lib.cell_of_heap Xa.out 7).trans rfl
    have fa7 : w2.frozen? ⟨w.heap.size, 7, none⟩ = false := Lib.frozen_of_heap Xa.out 7
    have ka8 : w2.cell? ⟨w.heap.size, 8, none⟩ = some (Value.slice a ks.length c) := (Lib.cell_of_heap Xa.out 8).trans rfl
    have fa8 : w2.frozen? ⟨w.heap.size, 8, none⟩ = false := Lib.frozen_of_heap Xa.out 8
    have za : w.heap.size < w2.heap.size := hlt Xa.out
    have kb0 : w2.cell? ⟨w.heap.size + 1, 0, none⟩ = some (Value.int .i64 kd) := (Lib.cell_of_heap Xb.out 0).trans rfl
    have fb0 : w2.frozen? ⟨w.heap.size + 1, 0, none⟩ = false := Lib.frozen_of_heap Xb.out 0
    have kb1 : w2.cell? ⟨w.heap.size + 1, 1, none⟩ = some (Value.bool n) := (Lib.cell_of_heap Xb.out 1).trans rfl
    have fb1 : w2.frozen? ⟨w.heap.size + 1, 1, none⟩ = false := Lib.frozen_of_heap Xb.out 1
    have kb2 : w2.cell? ⟨w.heap.size + 1, 2, none⟩ = some (Value.slice b1 xs.length d1) := (Lib.cell_of_heap Xb.out 2).trans rfl
    have fb2 : w2.frozen? ⟨w.heap.size + 1, 2, none⟩ = false := Lib.frozen_of_heap Xb.out 2
    have kb3 : w2.cell? ⟨w.heap.size + 1, 3, none⟩ = some (Value.bool m) := (Lib.cell_of_heap Xb.out 3).trans rfl
    have fb3 : w2.frozen? ⟨w.heap.size + 1, 3, none⟩ = false := Lib.frozen_of_heap Xb.out 3
    have kb4 : w2.cell? ⟨w.heap.size + 1, 4, none⟩ = some (Value.slice b2 ys.length d2) := (Lib.cell_of_heap Xb.out 4).trans rfl
    have fb4 : w2.frozen? ⟨w.heap.size + 1, 4, none⟩ = false := Lib.frozen_of_heap Xb.out 4
    have kb5 : w2.cell? ⟨w.heap.size + 1, 5, none⟩ = some (Value.string nm) := (Lib.cell_of_heap Xb.out 5).trans rfl
    have fb5 : w2.frozen? ⟨w.heap.size + 1, 5, none⟩ = false := Lib.frozen_of_heap Xb.out 5
    have kb6 : w2.cell? ⟨w.heap.size + 1, 6, none⟩ = some (Value.int .i64 p) := (Lib.cell_of_heap Xb.out 6).trans rfl
    have fb6 : w2.frozen? ⟨w.heap.size + 1, 6, none⟩ = false := Lib.frozen_of_heap Xb.out 6
    have kb7 : w2.cell? ⟨w.heap.size + 1, 7, none⟩ = some (Value.int .i64 q) := (Lib.cell_of_heap Xb.out 7).trans rfl
    have fb7 : w2.frozen? ⟨w.heap.size + 1, 7, none⟩ = false := Lib.frozen_of_heap Xb.out 7
    have kb8 : w2.cell? ⟨w.heap.size + 1, 8, none⟩ = some (Value.slice b ks.length d) := (Lib.cell_of_heap Xb.out 8).trans rfl
    have fb8 : w2.frozen? ⟨w.heap.size + 1, 8, none⟩ = false := Lib.frozen_of_heap Xb.out 8
    have zb : w.heap.size + 1 < w2.heap.size := hlt Xb.out
    go_wp2_with fail
    refine (eqExS a b ks.length c d X Y ks _ (S3.out.below HB.out) (R3.out.below HB.out) IH).mono ?_
    rintro e w3 ⟨rfl, hb⟩
    have yw3 := hb.size
    clear ka0 fa0 ka1 fa1 ka2 fa2 ka3 fa3 ka4 fa4 ka5 fa5 ka6 fa6 ka7 fa7 ka8 fa8 za
    clear kb0 fb0 kb1 fb1 kb2 fb2 kb3 fb3 kb4 fb4 kb5 fb5 kb6 fb6 kb7 fb7 kb8 fb8 zb
    replace Xa := hide (hbel Xa.out hb (by first | assumption | omega))
    replace Xb := hide (hbel Xb.out hb (by first | assumption | omega))
    replace HB := hide (bl_trans HB.out hb)
    clear hb
    have ka0 : w3.cell? ⟨w.heap.size, 0, none⟩ = some (Value.int .i64 kd) := (Lib.cell_of_heap Xa.out 0).trans rfl
    have fa0 : w3.frozen? ⟨w.heap.size, 0, none⟩ = false := Lib.frozen_of_heap Xa.out 0
    have ka1 : w3.cell? ⟨w.heap.size, 1, none⟩ = some (Value.bool n) := (Lib.cell_of_heap Xa.out 1).trans rfl
    have fa1 : w3.frozen? ⟨w.heap.size, 1, none⟩ = false := Lib.frozen_of_heap Xa.out 1
    have ka2 : w3.cell? ⟨w.heap.size, 2, none⟩ = some (Value.slice a1 xs.length c1) := (Lib.cell_of_heap Xa.out 2).trans rfl
    have fa2 : w3.frozen? ⟨w.heap.size, 2, none⟩ = false := Lib.frozen_of_heap Xa.out 2
    have ka3 : w3.cell? ⟨w.heap.size, 3, none⟩ = some (Value.bool m) := (Lib.cell_of_heap Xa.out 3).trans rfl
    have fa3 : w3.frozen? ⟨w.heap.size, 3, none⟩ = false := Lib.frozen_of_heap Xa.out 3
    have ka4 : w3.cell? ⟨w.heap.size, 4, none⟩ = some (Value.slice a2 ys.length c2) := (Lib.cell_of_heap Xa.out 4).trans rfl
    have fa4 : w3.frozen? ⟨w.heap.size, 4, none⟩ = false := Lib.frozen_of_heap Xa.out 4
    have ka5 : w3.cell? ⟨w.heap.size, 5, none⟩ = some (Value.string nm) := (Lib.cell_of_heap Xa.out 5).trans rfl
    have fa5 : w3.frozen? ⟨w.heap.size, 5, none⟩ = false := Lib.frozen_of_heap Xa.out 5
    have ka6 : w3.cell? ⟨w.heap.size, 6, none⟩ = some (Value.int .i64 p) := (Lib.cell_of_heap Xa.out 6).trans rfl
    have fa6 : w3.frozen? ⟨w.heap.size, 6, none⟩ = false := Lib.frozen_of_heap Xa.out 6
    have ka7 : w3.cell? ⟨w.heap.size, 7, none⟩ = some (Value.int .i64 q) := (Lib.cell_of_heap Xa.out 7).trans rfl
    have fa7 : w3.frozen? ⟨w.heap.size, 7, none⟩ = false := Lib.frozen_of_heap Xa.out 7
    have ka8 : w3.cell? ⟨w.heap.size, 8, none⟩ = some (Value.slice a ks.length c) := (Lib.cell_of_heap Xa.out 8).trans rfl
    have fa8 : w3.frozen? ⟨w.heap.size, 8, none⟩ = false := Lib.frozen_of_heap Xa.out 8
    have za : w.heap.size < w3.heap.size := hlt Xa.out
    have kb0 : w3.cell? ⟨w.heap.size + 1, 0, none⟩ = some (Value.int .i64 kd) := (Lib.cell_of_heap Xb.out 0).trans rfl
    have fb0 : w3.frozen? ⟨w.heap.size + 1, 0, none⟩ = false := Lib.frozen_of_heap Xb.out 0
    have kb1 : w3.cell? ⟨w.heap.size + 1, 1, none⟩ = some (Value.bool n) := (Lib.cell_of_heap Xb.out 1).trans rfl
    have fb1 : w3.frozen? ⟨w.heap.size + 1, 1, none⟩ = false := Lib.frozen_of_heap Xb.out 1
    have kb2 : w3.cell? ⟨w.heap.size + 1, 2, none⟩ = some (Value.slice b1 xs.length d1) := (Lib.cell_of_heap Xb.out 2).trans rfl
    have fb2 : w3.frozen? ⟨w.heap.size + 1, 2, none⟩ = false := Lib.frozen_of_heap Xb.out 2
    have kb3 : w3.cell? ⟨w.heap.size + 1, 3, none⟩ = some (Value.bool m) := (Lib.cell_of_heap Xb.out 3).trans rfl
    have fb3 : w3.frozen? ⟨w.heap.size + 1, 3, none⟩ = false := Lib.frozen_of_heap Xb.out 3
    have kb4 : w3.cell? ⟨w.heap.size + 1, 4, none⟩ = some (Value.slice b2 ys.length d2) := (Lib.cell_of_heap Xb.out 4).trans rfl
    have fb4 : w3.frozen? ⟨w.heap.size + 1, 4, none⟩ = false := Lib.frozen_of_heap Xb.out 4
    have kb5 : w3.cell? ⟨w.heap.size + 1, 5, none⟩ = some (Value.string nm) := (Lib.cell_of_heap Xb.out 5).trans rfl
    have fb5 : w3.frozen? ⟨w.heap.size + 1, 5, none⟩ = false := Lib.frozen_of_heap Xb.out 5
    have kb6 : w3.cell? ⟨w.heap.size + 1, 6, none⟩ = some (Value.int .i64 p) := (Lib.cell_of_heap Xb.out 6).trans rfl
    have fb6 : w3.frozen? ⟨w.heap.size + 1, 6, none⟩ = false := Lib.frozen_of_heap Xb.out 6
    have kb7 : w3.cell? ⟨w.heap.size + 1, 7, none⟩ = some (Value.int .i64 q) := (Lib.cell_of_heap Xb.out 7).trans rfl
    have fb7 : w3.frozen? ⟨w.heap.size + 1, 7, none⟩ = false := Lib.frozen_of_heap Xb.out 7
    have kb8 : w3.cell? ⟨w.heap.size + 1, 8, none⟩ = some (Value.slice b ks.length d) := (Lib.cell_of_heap Xb.out 8).trans rfl
    have fb8 : w3.frozen? ⟨w.heap.size + 1, 8, none⟩ = false := Lib.frozen_of_heap Xb.out 8
    have zb : w.heap.size + 1 < w3.heap.size := hlt Xb.out
    go_wp2
    go_ret
    exact ⟨rfl, HB.out⟩
end Go.Proofs.YtlknhheafmifnaaGreatDoor
