/- The program's grids: a copy of one. -/
import Derived.Test.YteljkjpcjjiidaaGr1
import Derived.Deep.RegionHeld3
namespace Go.Proofs.Yteljkjpcjjiidaa
open Go.RowKit
set_option linter.unusedVariables false
set_option maxRecDepth 20000

set_option maxHeartbeats 4000000 in
theorem eachCopy (R C : Int) (a : Option Addr) (n cap : Nat) (X : Nat → Prop) (E : Nat → Bool × List Nat) (w : World) (hs : BSeg w X a n cap E) (hR : 0 ≤ R ∧ R ≤ 8) (hC : 0 ≤ C ∧ C ≤ 8) (hn : (n : Int) = R * C) (hl : ∀ j, j < n → (E j).2.length ≤ 1048576) :
    Calls Try.prog 80 #[Value.agg #[Value.int .i64 R, Value.int .i64 C, Value.slice a n cap], .func (.func 81) #[] #[]] w fun e w' => ∃ g A, e = .returned (Value.agg #[Value.int .i64 R, Value.int .i64 C, Value.slice (some ⟨g, 0, none⟩) n n]) ∧ BOwn w' w.heap.size g n E A ∧ Below w.heap.size w w' := by
  have HS := hide hs
  have HL := hide hl
  have hcap := hs.1
  have hcm := hs.2.1
  clear hs hl
  have X2 : Hid (((w.alloc (Obj.cells #[Value.int .i64 R, Value.int .i64 C, Value.slice a n cap] 66)).alloc (Obj.cells #[Value.int .i64 0, Value.int .i64 0, Value.slice none 0 0] 66)).heap[w.heap.size]? = some (.cells #[Value.int .i64 R, Value.int .i64 C, Value.slice a n cap] 66 (0, 0))) := hide (hnewer (hnew _ _) _)
  have X4 : Hid (((w.alloc (Obj.cells #[Value.int .i64 R, Value.int .i64 C, Value.slice a n cap] 66)).alloc (Obj.cells #[Value.int .i64 0, Value.int .i64 0, Value.slice none 0 0] 66)).heap[w.heap.size + 1]? = some (.cells #[Value.int .i64 0, Value.int .i64 0, Value.slice none 0 0] 66 (0, 0))) := hide (by have := hnew (w.alloc (Obj.cells #[Value.int .i64 R, Value.int .i64 C, Value.slice a n cap] 66)) (Obj.cells #[Value.int .i64 0, Value.int .i64 0, Value.slice none 0 0] 66); simpa only [World.size_alloc] using this)
  have HB := hide (bl_alloc (bl_alloc (bl_refl w) (Obj.cells #[Value.int .i64 R, Value.int .i64 C, Value.slice a n cap] 66)) (Obj.cells #[Value.int .i64 0, Value.int .i64 0, Value.slice none 0 0] 66))
  go_enter Try.func80, Try.ntmps80
  go_wp2_with fail
  generalize (w.alloc (Obj.cells #[Value.int .i64 R, Value.int .i64 C, Value.slice a n cap] 66)).alloc (Obj.cells #[Value.int .i64 0, Value.int .i64 0, Value.slice none 0 0] 66) = w1 at *
  have hz2 := hlt X2.out
  have hz4 := hlt X4.out
  refine (newGridB R C n w1 hR hC hn).mono ?_
  rintro e w2 ⟨g, rfl, ho, hb2⟩
  have HO := hide ho
  replace X2 := hide (hbel X2.out hb2 hz2)
  replace X4 := hide (hbel X4.out hb2 hz4)
  replace HB := hide (bl_trans HB.out hb2)
  have hs2 := hb2.size
  clear ho hb2
  have X5 : Hid ((w2.alloc (Obj.cells #[Value.int .i64 R, Value.int .i64 C, Value.slice (some ⟨g, 0, none⟩) n n] 66)).heap[w2.heap.size]? = some (.cells #[Value.int .i64 R, Value.int .i64 C, Value.slice (some ⟨g, 0, none⟩) n n] 66 (0, 0))) := hide (hnew _ _)
  have HO2 := hide (HO.out.below (bl_alloc (bl_refl w2) (Obj.cells #[Value.int .i64 R, Value.int .i64 C, Value.slice (some ⟨g, 0, none⟩) n n] 66)))
  replace HB := hide (bl_trans HB.out (bl_alloc (bl_refl w2) (Obj.cells #[Value.int .i64 R, Value.int .i64 C, Value.slice (some ⟨g, 0, none⟩) n n] 66)))
  replace X2 := hide (hnewer X2.out (Obj.cells #[Value.int .i64 R, Value.int .i64 C, Value.slice (some ⟨g, 0, none⟩) n n] 66))
  replace X4 := hide (hnewer X4.out (Obj.cells #[Value.int .i64 R, Value.int .i64 C, Value.slice (some ⟨g, 0, none⟩) n n] 66))
  have hg2 := HO.out.1
  have hg3 := HO.out.lt
  have k22 := (Lib.cell_of_heap X2.out 2).trans (show _ = some (Value.slice a n cap) from rfl)
  clear HO X2
  go_wp2_with fail
  generalize hb5 : w2.heap.size = b5 at *
  clear hb5
  generalize hwx : w2.alloc (Obj.cells #[Value.int .i64 R, Value.int .i64 C, Value.slice (some ⟨g, 0, none⟩) n n] 66) = w3 at *
  clear hwx
  go_wp2
  go_loopw [16] (fun i wr => ∃ (k : Nat) (A : Nat → Option Addr × Nat), k ≤ n ∧ i = .int .i64 (k : Int) ∧ Hid (BOwn wr w1.heap.size g n (fun j => if j < k then E j else (false, [])) A) ∧ Hid (wr.heap[w.heap.size + 1]? = some (.cells #[Value.int .i64 0, Value.int .i64 0, Value.slice none 0 0] 66 (0, 0))) ∧ Hid (wr.heap[b5]? = some (.cells #[Value.int .i64 R, Value.int .i64 C, Value.slice (some ⟨g, 0, none⟩) n n] 66 (0, 0))) ∧ Hid (Below w.heap.size w wr)) (fun i _ => n - (intOf i).toNat)
  case atStart => exact ⟨0, zA, Nat.zero_le _, rfl, hide (HO2.out.congr (fun j hj => by simp [zE])), X4, X5, HB⟩
  case round =>
    clear X4 X5 HO2 HB k22
    obtain ⟨k, A, hk, rfl, hm, X4, X5, hb⟩ := hrel
    by_cases hkn : k < n
    · have hkn' : (k : Int) < (n : Int) := by omega
      obtain ⟨ga, oa, rfl, hga, a1, c1, t0, t1, sg⟩ := (HS.out.below hb.out).at hkn
      have hll := HL.out k hkn
      obtain ⟨⟨b1, xs⟩, ek⟩ : ∃ p, E k = p := ⟨_, rfl⟩
      rw [ek] at t0 t1 sg hll
      dsimp only at t0 t1 sg hll
      have EK := hide ek
      have H1 := hide (sg.below (bl_alloc (bl_refl wr) (Obj.cells #[Value.bool b1, Value.slice a1 xs.length c1] 54)))
      have hm2 := hide (hm.out.below (bl_alloc (bl_refl wr) (Obj.cells #[Value.bool b1, Value.slice a1 xs.length c1] 54)))
      have X7 : Hid ((wr.alloc (Obj.cells #[Value.bool b1, Value.slice a1 xs.length c1] 54)).heap[wr.heap.size]? = some (.cells #[Value.bool b1, Value.slice a1 xs.length c1] 54 (0, 0))) := hide (hnew _ _)
      replace X4 := hide (hnewer X4.out (Obj.cells #[Value.bool b1, Value.slice a1 xs.length c1] 54))
      replace X5 := hide (hnewer X5.out (Obj.cells #[Value.bool b1, Value.slice a1 xs.length c1] 54))
      have hgr := hm.out.lt
      replace hb := hide (bl_trans hb.out (bl_alloc (bl_refl wr) (Obj.cells #[Value.bool b1, Value.slice a1 xs.length c1] 54)))
      clear ek sg hm
      go_wp2_with fail
      generalize hwx : wr.alloc (Obj.cells #[Value.bool b1, Value.slice a1 xs.length c1] 54) = wx at *
      clear hwx t0 t1
      have h5ne : b5 ≠ g := by intro e; subst e; omega
      have h7ne : wr.heap.size ≠ g := by omega
      have KP : Hid (∀ w', Chg (fun q => q = g) wx w' → (w'.cell? ⟨b5, 2, none⟩ = some (Value.slice (some ⟨g, 0, none⟩) n n) ∧ w'.cell? ⟨wr.heap.size, 0, none⟩ = some (Value.bool b1) ∧ w'.cell? ⟨wr.heap.size, 1, none⟩ = some (Value.slice a1 xs.length c1))) := hide (fun w' h => ⟨(Lib.cell_of_heap (h.heap X5.out h5ne) 2).trans rfl, (Lib.cell_of_heap (h.heap X7.out h7ne) 0).trans rfl, (Lib.cell_of_heap (h.heap X7.out h7ne) 1).trans rfl⟩)
      go_region_held3 (fun w' => w'.cell? ⟨b5, 2, none⟩ = some (Value.slice (some ⟨g, 0, none⟩) n n) ∧ w'.cell? ⟨wr.heap.size, 0, none⟩ = some (Value.bool b1) ∧ w'.cell? ⟨wr.heap.size, 1, none⟩ = some (Value.slice a1 xs.length c1))
        (first
          | exact KP.out _ (Chg.refl _ _).drew
          | exact KP.out _ hcg
          | exact KP.out _ ((hcg.set rfl _).set rfl _))
        (first
          | (go_at_call 81; refine (copiedBigI b1 a1 xs c1 _ (H1.out.below (bl_refl wx).drew) hll).mono ?_; rintro e w4 ⟨b3, d3, rfl, ho3, hb3'⟩; have hb3 : Below wx.heap.size wx w4 := (bl_refl wx).drew.trans hb3'; have hcg : Chg (fun q => q = g) wx w4 := Chg.below hb3; have hput := hide (hm2.out.fresh hb3 hkn b1 ho3); have hce := (hm2.out.below hb3).cells hkn; obtain ⟨D0, D1, F0, F1⟩ := hce; clear ho3 hb3'))
      all_goals have HST := hide (((St.refl g w4).set (k * 2) (.bool b1)).set (k * 2 + 1) (.slice b3 xs.length d3))
      all_goals have Y4 := hide (HST.out.heap (hbel X4.out hb3 (hlt X4.out)) (by omega))
      all_goals have Y5 := hide (HST.out.heap (hbel X5.out hb3 (hlt X5.out)) h5ne)
      all_goals have HB4 := hide (St.below (bl_trans hb.out hb3) HST.out (by omega))
      all_goals clear hb3 hcg D0 D1 F0 F1
      all_goals go_wp2
      all_goals refine ⟨⟨k + 1, _, by omega, by go_num, hide (hput.out.congr fun j hj => ?_), Y4, Y5, HB4⟩, by simp [intOf]; omega⟩
      all_goals (by_cases e : j = k)
      all_goals first
        | (subst e; rw [upd_same, if_pos (Nat.lt_succ_self _), EK.out])
        | (rw [upd_ne _ _ e]; by_cases e2 : j < k; (· rw [if_pos e2, if_pos (by omega)]); (· rw [if_neg e2, if_neg (by omega)]))
    · obtain rfl : k = n := by omega
      have k50 := (Lib.cell_of_heap X5.out 0).trans (show _ = some (Value.int .i64 R) from rfl)
      have k51 := (Lib.cell_of_heap X5.out 1).trans (show _ = some (Value.int .i64 C) from rfl)
      have k52 := (Lib.cell_of_heap X5.out 2).trans (show _ = some (Value.slice (some ⟨g, 0, none⟩) k k) from rfl)
      have k40 := (Lib.cell_of_heap X4.out 0).trans (show _ = some (Value.int .i64 0) from rfl)
      have k41 := (Lib.cell_of_heap X4.out 1).trans (show _ = some (Value.int .i64 0) from rfl)
      have k42 := (Lib.cell_of_heap X4.out 2).trans (show _ = some (Value.slice none 0 0) from rfl)
      have f40 := Lib.frozen_of_heap X4.out 0
      have f41 := Lib.frozen_of_heap X4.out 1
      have f42 := Lib.frozen_of_heap X4.out 2
      go_wp2
      refine bodyPost_ret (v := Value.agg #[Value.int .i64 R, Value.int .i64 C, Value.slice (some ⟨g, 0, none⟩) k k]) (by simp [results, Try.results80, go_sem, *]) rfl ?_
      have hst := (((St.refl (w.heap.size + 1) wr).set 0 (.int .i64 R)).set 1 (.int .i64 C)).set 2 (.slice (some ⟨g, 0, none⟩) k k)
      exact ⟨g, A, rfl, (BOwn.st (hm.out.congr (fun j hj => by rw [if_pos hj])) hst (by omega)).mono (by omega), St.below hb.out hst (by omega)⟩

set_option maxHeartbeats 4000000 in
theorem copyGrid (R C : Int) (a : Option Addr) (n cap : Nat) (X : Nat → Prop) (E : Nat → Bool × List Nat) (w : World) (hs : BSeg w X a n cap E) (hR : 0 ≤ R ∧ R ≤ 8) (hC : 0 ≤ C ∧ C ≤ 8) (hn : (n : Int) = R * C) (hl : ∀ j, j < n → (E j).2.length ≤ 1048576) :
    Calls Try.prog 54 #[Value.agg #[Value.int .i64 R, Value.int .i64 C, Value.slice a n cap]] w fun e w' => ∃ g A, e = .returned (Value.agg #[Value.int .i64 R, Value.int .i64 C, Value.slice (some ⟨g, 0, none⟩) n n]) ∧ BOwn w' w.heap.size g n E A ∧ Below w.heap.size w w' := by
  have HS := hide hs
  clear hs
  have Xa : Hid (((w.alloc (Obj.cells #[Value.int .i64 R, Value.int .i64 C, Value.slice a n cap] 29)).alloc (Obj.cells #[Value.int .i64 0, Value.int .i64 0, Value.slice none 0 0] 66)).heap[w.heap.size]? = some (.cells #[Value.int .i64 R, Value.int .i64 C, Value.slice a n cap] 29 (0, 0))) := hide (by simpa only [World.size_alloc] using (hnewer (hnew w (Obj.cells #[Value.int .i64 R, Value.int .i64 C, Value.slice a n cap] 29)) (Obj.cells #[Value.int .i64 0, Value.int .i64 0, Value.slice none 0 0] 66)))
  have Xr : Hid (((w.alloc (Obj.cells #[Value.int .i64 R, Value.int .i64 C, Value.slice a n cap] 29)).alloc (Obj.cells #[Value.int .i64 0, Value.int .i64 0, Value.slice none 0 0] 66)).heap[w.heap.size + 1]? = some (.cells #[Value.int .i64 0, Value.int .i64 0, Value.slice none 0 0] 66 (0, 0))) := hide (by simpa only [World.size_alloc] using (hnew (w.alloc (Obj.cells #[Value.int .i64 R, Value.int .i64 C, Value.slice a n cap] 29)) (Obj.cells #[Value.int .i64 0, Value.int .i64 0, Value.slice none 0 0] 66)))
  have HB : Hid (Below w.heap.size w ((w.alloc (Obj.cells #[Value.int .i64 R, Value.int .i64 C, Value.slice a n cap] 29)).alloc (Obj.cells #[Value.int .i64 0, Value.int .i64 0, Value.slice none 0 0] 66))) := hide (bl_alloc (bl_alloc (bl_refl w) (Obj.cells #[Value.int .i64 R, Value.int .i64 C, Value.slice a n cap] 29)) (Obj.cells #[Value.int .i64 0, Value.int .i64 0, Value.slice none 0 0] 66))
  have yw1 : w.heap.size + 2 ≤ ((w.alloc (Obj.cells #[Value.int .i64 R, Value.int .i64 C, Value.slice a n cap] 29)).alloc (Obj.cells #[Value.int .i64 0, Value.int .i64 0, Value.slice none 0 0] 66)).heap.size := by simp only [World.size_alloc]; omega
  have ka0 : ((w.alloc (Obj.cells #[Value.int .i64 R, Value.int .i64 C, Value.slice a n cap] 29)).alloc (Obj.cells #[Value.int .i64 0, Value.int .i64 0, Value.slice none 0 0] 66)).cell? ⟨w.heap.size, 0, none⟩ = some (Value.int .i64 R) := (Lib.cell_of_heap Xa.out 0).trans rfl
  have fa0 : ((w.alloc (Obj.cells #[Value.int .i64 R, Value.int .i64 C, Value.slice a n cap] 29)).alloc (Obj.cells #[Value.int .i64 0, Value.int .i64 0, Value.slice none 0 0] 66)).frozen? ⟨w.heap.size, 0, none⟩ = false := Lib.frozen_of_heap Xa.out 0
  have ka1 : ((w.alloc (Obj.cells #[Value.int .i64 R, Value.int .i64 C, Value.slice a n cap] 29)).alloc (Obj.cells #[Value.int .i64 0, Value.int .i64 0, Value.slice none 0 0] 66)).cell? ⟨w.heap.size, 1, none⟩ = some (Value.int .i64 C) := (Lib.cell_of_heap Xa.out 1).trans rfl
  have fa1 : ((w.alloc (Obj.cells #[Value.int .i64 R, Value.int .i64 C, Value.slice a n cap] 29)).alloc (Obj.cells #[Value.int .i64 0, Value.int .i64 0, Value.slice none 0 0] 66)).frozen? ⟨w.heap.size, 1, none⟩ = false := Lib.frozen_of_heap Xa.out 1
  have ka2 : ((w.alloc (Obj.cells #[Value.int .i64 R, Value.int .i64 C, Value.slice a n cap] 29)).alloc (Obj.cells #[Value.int .i64 0, Value.int .i64 0, Value.slice none 0 0] 66)).cell? ⟨w.heap.size, 2, none⟩ = some (Value.slice a n cap) := (Lib.cell_of_heap Xa.out 2).trans rfl
  have fa2 : ((w.alloc (Obj.cells #[Value.int .i64 R, Value.int .i64 C, Value.slice a n cap] 29)).alloc (Obj.cells #[Value.int .i64 0, Value.int .i64 0, Value.slice none 0 0] 66)).frozen? ⟨w.heap.size, 2, none⟩ = false := Lib.frozen_of_heap Xa.out 2
  have za : w.heap.size < ((w.alloc (Obj.cells #[Value.int .i64 R, Value.int .i64 C, Value.slice a n cap] 29)).alloc (Obj.cells #[Value.int .i64 0, Value.int .i64 0, Value.slice none 0 0] 66)).heap.size := hlt Xa.out
  have kr0 : ((w.alloc (Obj.cells #[Value.int .i64 R, Value.int .i64 C, Value.slice a n cap] 29)).alloc (Obj.cells #[Value.int .i64 0, Value.int .i64 0, Value.slice none 0 0] 66)).cell? ⟨w.heap.size + 1, 0, none⟩ = some (Value.int .i64 0) := (Lib.cell_of_heap Xr.out 0).trans rfl
  have fr0 : ((w.alloc (Obj.cells #[Value.int .i64 R, Value.int .i64 C, Value.slice a n cap] 29)).alloc (Obj.cells #[Value.int .i64 0, Value.int .i64 0, Value.slice none 0 0] 66)).frozen? ⟨w.heap.size + 1, 0, none⟩ = false := Lib.frozen_of_heap Xr.out 0
  have kr1 : ((w.alloc (Obj.cells #[Value.int .i64 R, Value.int .i64 C, Value.slice a n cap] 29)).alloc (Obj.cells #[Value.int .i64 0, Value.int .i64 0, Value.slice none 0 0] 66)).cell? ⟨w.heap.size + 1, 1, none⟩ = some (Value.int .i64 0) := (Lib.cell_of_heap Xr.out 1).trans rfl
  have fr1 : ((w.alloc (Obj.cells #[Value.int .i64 R, Value.int .i64 C, Value.slice a n cap] 29)).alloc (Obj.cells #[Value.int .i64 0, Value.int .i64 0, Value.slice none 0 0] 66)).frozen? ⟨w.heap.size + 1, 1, none⟩ = false := Lib.frozen_of_heap Xr.out 1
  have kr2 : ((w.alloc (Obj.cells #[Value.int .i64 R, Value.int .i64 C, Value.slice a n cap] 29)).alloc (Obj.cells #[Value.int .i64 0, Value.int .i64 0, Value.slice none 0 0] 66)).cell? ⟨w.heap.size + 1, 2, none⟩ = some (Value.slice none 0 0) := (Lib.cell_of_heap Xr.out 2).trans rfl
  have fr2 : ((w.alloc (Obj.cells #[Value.int .i64 R, Value.int .i64 C, Value.slice a n cap] 29)).alloc (Obj.cells #[Value.int .i64 0, Value.int .i64 0, Value.slice none 0 0] 66)).frozen? ⟨w.heap.size + 1, 2, none⟩ = false := Lib.frozen_of_heap Xr.out 2
  have zr : w.heap.size + 1 < ((w.alloc (Obj.cells #[Value.int .i64 R, Value.int .i64 C, Value.slice a n cap] 29)).alloc (Obj.cells #[Value.int .i64 0, Value.int .i64 0, Value.slice none 0 0] 66)).heap.size := hlt Xr.out
  go_enter Try.func54, Try.ntmps54
  go_wp2_with fail
  generalize ((w.alloc (Obj.cells #[Value.int .i64 R, Value.int .i64 C, Value.slice a n cap] 29)).alloc (Obj.cells #[Value.int .i64 0, Value.int .i64 0, Value.slice none 0 0] 66)) = w1 at *
  refine (eachCopy R C a n cap X E _ (HS.out.below HB.out) hR hC hn hl).mono ?_
  rintro e w2 ⟨g, A, rfl, ho, hb⟩
  have yw2 := hb.size
  clear ka0 fa0 ka1 fa1 ka2 fa2 za
  clear kr0 fr0 kr1 fr1 kr2 fr2 zr
  replace Xa := hide (hbel Xa.out hb (by first | assumption | omega))
  replace Xr := hide (hbel Xr.out hb (by first | assumption | omega))
  replace HB := hide (bl_trans HB.out hb)
  clear hb
  have O1 := hide ho
  clear ho
  have ka0 : w2.cell? ⟨w.heap.size, 0, none⟩ = some (Value.int .i64 R) := (Lib.cell_of_heap Xa.out 0).trans rfl
  have fa0 : w2.frozen? ⟨w.heap.size, 0, none⟩ = false := Lib.frozen_of_heap Xa.out 0
  have ka1 : w2.cell? ⟨w.heap.size, 1, none⟩ = some (Value.int .i64 C) := (Lib.cell_of_heap Xa.out 1).trans rfl
  have fa1 : w2.frozen? ⟨w.heap.size, 1, none⟩ = false := Lib.frozen_of_heap Xa.out 1
  have ka2 : w2.cell? ⟨w.heap.size, 2, none⟩ = some (Value.slice a n cap) := (Lib.cell_of_heap Xa.out 2).trans rfl
  have fa2 : w2.frozen? ⟨w.heap.size, 2, none⟩ = false := Lib.frozen_of_heap Xa.out 2
  have za : w.heap.size < w2.heap.size := hlt Xa.out
  have kr0 : w2.cell? ⟨w.heap.size + 1, 0, none⟩ = some (Value.int .i64 0) := (Lib.cell_of_heap Xr.out 0).trans rfl
  have fr0 : w2.frozen? ⟨w.heap.size + 1, 0, none⟩ = false := Lib.frozen_of_heap Xr.out 0
  have kr1 : w2.cell? ⟨w.heap.size + 1, 1, none⟩ = some (Value.int .i64 0) := (Lib.cell_of_heap Xr.out 1).trans rfl
  have fr1 : w2.frozen? ⟨w.heap.size + 1, 1, none⟩ = false := Lib.frozen_of_heap Xr.out 1
  have kr2 : w2.cell? ⟨w.heap.size + 1, 2, none⟩ = some (Value.slice none 0 0) := (Lib.cell_of_heap Xr.out 2).trans rfl
  have fr2 : w2.frozen? ⟨w.heap.size + 1, 2, none⟩ = false := Lib.frozen_of_heap Xr.out 2
  have zr : w.heap.size + 1 < w2.heap.size := hlt Xr.out
  go_wp2
  obtain ⟨w3, ew3⟩ : ∃ x, x = (((w2.setCell ⟨w.heap.size + 1, 0, none⟩ (Value.int .i64 R)).setCell ⟨w.heap.size + 1, 1, none⟩ (Value.int .i64 C)).setCell ⟨w.heap.size + 1, 2, none⟩ (Value.slice (some ⟨g, 0, none⟩) n n)) := ⟨_, rfl⟩
  have hst : St (w.heap.size + 1) w2 w3 := by rw [ew3]; exact ((((St.refl (w.heap.size + 1) w2).set 0 (Value.int .i64 R)).set 1 (Value.int .i64 C)).set 2 (Value.slice (some ⟨g, 0, none⟩) n n))
  rw [← ew3]
  have XX : Hid (w3.heap[w.heap.size + 1]? = some (.cells #[Value.int .i64 R, Value.int .i64 C, Value.slice (some ⟨g, 0, none⟩) n n] 66 (0, 0))) := hide (by rw [ew3]; exact (hset (hset (hset Xr.out 0 (Value.int .i64 R)) 1 (Value.int .i64 C)) 2 (Value.slice (some ⟨g, 0, none⟩) n n)))
  have yw3 : w2.heap.size ≤ w3.heap.size := Nat.le_of_eq hst.size.symm
  clear ew3
  clear ka0 fa0 ka1 fa1 ka2 fa2 za
  clear kr0 fr0 kr1 fr1 kr2 fr2 zr
  replace Xa := hide (hst.heap Xa.out (by omega))
  replace O1 := hide (BOwn.st O1.out hst (by omega))
  replace HB := hide (St.below HB.out hst (by omega))
  have Xr := XX
  clear XX hst
  have ka0 : w3.cell? ⟨w.heap.size, 0, none⟩ = some (Value.int .i64 R) := (Lib.cell_of_heap Xa.out 0).trans rfl
  have fa0 : w3.frozen? ⟨w.heap.size, 0, none⟩ = false := Lib.frozen_of_heap Xa.out 0
  have ka1 : w3.cell? ⟨w.heap.size, 1, none⟩ = some (Value.int .i64 C) := (Lib.cell_of_heap Xa.out 1).trans rfl
  have fa1 : w3.frozen? ⟨w.heap.size, 1, none⟩ = false := Lib.frozen_of_heap Xa.out 1
  have ka2 : w3.cell? ⟨w.heap.size, 2, none⟩ = some (Value.slice a n cap) := (Lib.cell_of_heap Xa.out 2).trans rfl
  have fa2 : w3.frozen? ⟨w.heap.size, 2, none⟩ = false := Lib.frozen_of_heap Xa.out 2
  have za : w.heap.size < w3.heap.size := hlt Xa.out
  have kr0 : w3.cell? ⟨w.heap.size + 1, 0, none⟩ = some (Value.int .i64 R) := (Lib.cell_of_heap Xr.out 0).trans rfl
  have fr0 : w3.frozen? ⟨w.heap.size + 1, 0, none⟩ = false := Lib.frozen_of_heap Xr.out 0
  have kr1 : w3.cell? ⟨w.heap.size + 1, 1, none⟩ = some (Value.int .i64 C) := (Lib.cell_of_heap Xr.out 1).trans rfl
  have fr1 : w3.frozen? ⟨w.heap.size + 1, 1, none⟩ = false := Lib.frozen_of_heap Xr.out 1
  have kr2 : w3.cell? ⟨w.heap.size + 1, 2, none⟩ = some (Value.slice (some ⟨g, 0, none⟩) n n) := (Lib.cell_of_heap Xr.out 2).trans rfl
  have fr2 : w3.frozen? ⟨w.heap.size + 1, 2, none⟩ = false := Lib.frozen_of_heap Xr.out 2
  have zr : w.heap.size + 1 < w3.heap.size := hlt Xr.out
  refine bodyPost_ret (v := Value.agg #[Value.int .i64 R, Value.int .i64 C, Value.slice (some ⟨g, 0, none⟩) n n]) (by simp [results, Try.results54, go_sem, kr0, kr1, kr2]) rfl ?_
  exact ⟨g, A, rfl, O1.out.mono (by omega), HB.out⟩
end Go.Proofs.Yteljkjpcjjiidaa
