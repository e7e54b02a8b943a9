/- My texts VtI, LawVt, in this order. -/
import Derived.Test.YteeifaleneneeaaGreatDoorPk23
import Derived.Test.YteeifaleneneeaaGreatDoorSb
import Derived.Test.YteeifaleneneeaaGreatDoorVEq8
import Derived.Test.YteeifaleneneeaaGreatDoorPk01
import Derived.Deep.RegionHeld3
/- The walk of the program's VecText. -/
namespace Go.Proofs.YteeifaleneneeaaGreatDoor
open Go.RowKit
set_option linter.unusedVariables false

theorem bytes_app (l : List UInt8) (s : ByteArray) : Lib.byteCells l ++ Lib.strCells s = Lib.byteCells (l ++ s.data.toList) := by simp [Lib.byteCells, Lib.strCells]
theorem isb_bel {T e : TypeId} {B b : Nat} {bs : List Value} {w w' : World} (h : Lib.IsBuilder T e B b bs w) (hw : Below w.heap.size w w') : Lib.IsBuilder T e B b bs w' := by
  have f : ∀ p, Lib.BuilderAt T e B b p bs w → Lib.BuilderAt T e B b p bs w' := by
    intro p h
    have hlt := h.lt
    obtain ⟨hB, v, hb, ho, hne⟩ := h
    have hk : v.ownBlock = none ∨ v.ownBlock ≠ none := by cases v.ownBlock with
      | none => exact .inl rfl
      | some k => exact .inr (by simp)
    exact ⟨hB, v, (hw.block b hlt).trans hb, ho.kept (grown_of_below hw) hk, hne⟩
  exact h.elim (fun h => .inl (f _ h)) (fun h => .inr (f _ h))
set_option maxHeartbeats 1000000 in
set_option maxRecDepth 20000 in
theorem allNamesI (a : Option Addr) (n cap : Nat) (ts : List ByteArray) (w : World) (hs : SSeg w a n cap ts) (hz : stot ts ≤ 1048576) :
    Calls Tryz.prog 19 #[.slice a n cap] w fun e w' => e = .returned (.bool (ts.all nameOkB)) ∧ Below w.heap.size w w' := by
  have hxl := hs.1
  have hcap := hs.2.1
  have hcm := hs.2.2.1
  have HS := hide hs
  clear hs
  go_enter Tryz.func19, Tryz.ntmps19
  go_wp2
  go_loopw [7] (fun i wr => ∃ k : Nat, k ≤ n ∧ i = .int .i64 k ∧ Hid (∀ j (h : j < ts.length), j < k → nameOkB ts[j] = true) ∧ Hid (Below w.heap.size w wr)) (fun i _ => n - (intOf i).toNat)
  case atStart => exact ⟨0, Nat.zero_le _, rfl, hide (fun j _ h => absurd h (Nat.not_lt_zero _)), hide (bl_refl w)⟩
  case round =>
    obtain ⟨k, hk, rfl, hal, hb⟩ := hrel
    by_cases hlt : k < n
    · have hlt' : (k : Int) < (n : Int) := by omega
      have hkx : k < ts.length := by omega
      obtain ⟨g, o, rfl, hg, c0⟩ := (HS.out.below hb.out).at hkx
      have hsz : ts[k].size ≤ 140737488355328 := by have := stot_mono ts k hkx; omega
      cases hn : nameOkB ts[k] with
      | true =>
        have HN : Hid (∀ j (h : j < ts.length), j < k + 1 → nameOkB ts[j] = true) := hide (fun j h hj => by
          by_cases e : j = k
          · subst e; exact hn
          · exact hal.out j h (by omega))
        have HS1 := hide hsz
        generalize ts[k] = s at *
        go_wp2_with (go_at_call 37; refine (nameI s _ HS1.out).mono ?_; rintro e w2 ⟨rfl, hb2⟩; rw [hn]; have HB2 := hide (bl_trans hb.out hb2); clear hb2)
        exact ⟨⟨k + 1, by omega, by go_num, HN, HB2⟩, by simp [intOf]; omega⟩
      | false =>
        have HF : Hid (ts.all nameOkB = false) := hide (by
          rw [List.all_eq_false]
          exact ⟨ts[k], List.getElem_mem _, by rw [hn]; decide⟩)
        have HS1 := hide hsz
        generalize ts[k] = s at *
        go_wp2_with (go_at_call 37; refine (nameI s _ HS1.out).mono ?_; rintro e w2 ⟨rfl, hb2⟩; rw [hn]; have HB2 := hide (bl_trans hb.out hb2); clear hb2)
        go_ret
        exact ⟨by rw [HF.out]; rfl, HB2.out⟩
    · obtain rfl : k = n := by omega
      have HF : Hid (ts.all nameOkB = true) := hide (by
        rw [List.all_eq_true]
        intro t ht
        obtain ⟨j, hj, rfl⟩ := List.getElem_of_mem ht
        exact hal.out j hj (by omega))
      go_wp2
      go_ret
      exact ⟨by rw [HF.out]; rfl, hb.out⟩

theorem upTextI (n d : Int) (f : Nat → Int) (i : Nat) (w : World) (hi : i < 8) (hx : -100000 ≤ f i ∧ f i ≤ 100000) (hd : 1 ≤ d ∧ d ≤ 720) (htab : Tabs w) :
    Calls Tryz.prog 23 #[Value.agg #[Value.int .i64 n, Value.int .i64 (f 0), Value.int .i64 (f 1), Value.int .i64 (f 2), Value.int .i64 (f 3), Value.int .i64 (f 4), Value.int .i64 (f 5), Value.int .i64 (f 6), Value.int .i64 (f 7), Value.int .i64 d], .int .i64 (i : Int)] w fun e w' => e = .returned (.string (upT (f i) d)) ∧ Below w.heap.size w w' := by
  by_cases he : f i = d
  · exact upText_one n d f i w hi hx hd he htab
  · exact upText_two n d f i w hi hx hd he htab
set_option maxHeartbeats 400000 in
set_option maxRecDepth 20000 in
theorem noughtP (n : Int) (f : Nat → Int) (w : World) :
    Calls Tryz.prog 20 #[Value.agg #[Value.int .i64 n, Value.int .i64 (f 0), Value.int .i64 (f 1), Value.int .i64 (f 2), Value.int .i64 (f 3), Value.int .i64 (f 4), Value.int .i64 (f 5), Value.int .i64 (f 6), Value.int .i64 (f 7)]] w fun e w' => e = .returned (.bool (V.eq8 f fun _ => 0)) ∧ Below w.heap.size w w' := by
  have HB := hide (bl_alloc (bl_refl w) (Obj.cells #[Value.int .i64 n, Value.int .i64 (f 0), Value.int .i64 (f 1), Value.int .i64 (f 2), Value.int .i64 (f 3), Value.int .i64 (f 4), Value.int .i64 (f 5), Value.int .i64 (f 6), Value.int .i64 (f 7)] 48))
  have hq : ∀ wx : World, Sem.run Tryz.prog (Op.equalIn 10000 46 (Value.agg #[Value.int .i64 (f 0), Value.int .i64 (f 1), Value.int .i64 (f 2), Value.int .i64 (f 3), Value.int .i64 (f 4), Value.int .i64 (f 5), Value.int .i64 (f 6), Value.int .i64 (f 7)]) (Value.agg #[Value.int .i64 0, Value.int .i64 0, Value.int .i64 0, Value.int .i64 0, Value.int .i64 0, Value.int .i64 0, Value.int .i64 0, Value.int .i64 0])) wx = .ok (V.eq8 f fun _ => 0) wx := fun wx => V.eql8 f (fun _ => 0) wx
  go_enter Tryz.func20, Tryz.ntmps20
  go_wp2
  go_ret
  exact ⟨rfl, HB.out⟩

set_option maxHeartbeats 4000000 in
set_option maxRecDepth 20000 in
theorem vecText_no (den : Int) (a : Option Addr) (cap : Nat) (xs : List Int) (b : Option Addr) (m cb : Nat) (ts : List ByteArray) (w : World) (hs : V.Seg w a xs.length cap xs) (ht : SSeg w b m cb ts) (hz : stot ts ≤ 1048576) (htab : Tabs w) (h0 : V.vokB den xs = false) :
    Calls Tryz.prog 9 #[Value.agg #[Value.int .i64 den, Value.slice a xs.length cap], .slice b m cb] w fun e w' => e = .returned (.string (vtxt den xs ts)) ∧ Below w.heap.size w w' := by
  have HR : Hid (vtxt den xs ts = ⟨#[]⟩) := hide (by unfold vtxt vtB; rw [h0]; rfl)
  have H0 := hide h0
  clear h0
  have htl := ht.1
  have hmc := ht.2.1
  have hmc2 := ht.2.2.1
  have hbn := bl_alloc (bl_refl w) (Obj.cells #[Value.int .i64 den, Value.slice a xs.length cap] 29)
  have HS := hide (hs.below hbn)
  have HT := hide (ht.below hbn)
  have HTB := hide (htab.below hbn)
  have HB := hide hbn
  clear hbn hs ht htab
  go_enter Tryz.func9, Tryz.ntmps9
  go_wp2_with fail
  generalize (w.alloc (Obj.cells #[Value.int .i64 den, Value.slice a xs.length cap] 29)) = w0 at *
  have HQ := hide (V.powersOf den a cap xs w0 HS.out)
  rw [H0.out] at HQ
  refine HQ.out.mono ?_
  rintro e w1 ⟨rfl, hb⟩
  clear HQ
  have yw1 := hb.size
  replace HS := hide (HS.out.below hb)
  replace HT := hide (HT.out.below hb)
  replace HTB := hide (HTB.out.below hb)
  replace HB := hide (bl_trans HB.out hb)
  clear hb
  have HBE := hide (bl_alloc HB.out (Obj.cells #[Value.int .i64 (V.pwN xs), Value.int .i64 (V.pwF xs 0), Value.int .i64 (V.pwF xs 1), Value.int .i64 (V.pwF xs 2), Value.int .i64 (V.pwF xs 3), Value.int .i64 (V.pwF xs 4), Value.int .i64 (V.pwF xs 5), Value.int .i64 (V.pwF xs 6), Value.int .i64 (V.pwF xs 7), Value.int .i64 den] 50))
  go_wp2
  go_ret
  exact ⟨by rw [HR.out]; rfl, HBE.out⟩

set_option maxHeartbeats 4000000 in
set_option maxRecDepth 20000 in
theorem vecText_len (den : Int) (a : Option Addr) (cap : Nat) (xs : List Int) (b : Option Addr) (m cb : Nat) (ts : List ByteArray) (w : World) (hs : V.Seg w a xs.length cap xs) (ht : SSeg w b m cb ts) (hz : stot ts ≤ 1048576) (htab : Tabs w) (h0 : V.vokB den xs = true) (h1 : m ≠ xs.length) :
    Calls Tryz.prog 9 #[Value.agg #[Value.int .i64 den, Value.slice a xs.length cap], .slice b m cb] w fun e w' => e = .returned (.string (vtxt den xs ts)) ∧ Below w.heap.size w w' := by
  have HR : Hid (vtxt den xs ts = ⟨#[]⟩) := hide (by unfold vtxt vtB; rw [decide_eq_false (p := ts.length = xs.length) (by have := ht.1; omega)]; simp)
  have h1' : ((m : Int) == (xs.length : Int)) = false := by rw [beq_eq_false_iff_ne]; omega
  have h1'' : ¬ ((m : Int) = (xs.length : Int)) := by omega
  obtain ⟨hd, h8, hxr⟩ := at_big h0
  have E0 : Hid (V.pwN xs = xs.length) := hide (if_pos h8)
  have E1 : Hid (∀ j, V.pwF xs j = V.at8 xs j) := hide (fun j => if_pos h8)
  have H0 := hide h0
  have HD := hide hd
  have HXR := hide hxr
  clear h0 hd hxr
  have htl := ht.1
  have hmc := ht.2.1
  have hmc2 := ht.2.2.1
  have hbn := bl_alloc (bl_refl w) (Obj.cells #[Value.int .i64 den, Value.slice a xs.length cap] 29)
  have HS := hide (hs.below hbn)
  have HT := hide (ht.below hbn)
  have HTB := hide (htab.below hbn)
  have HB := hide hbn
  clear hbn hs ht htab
  go_enter Tryz.func9, Tryz.ntmps9
  go_wp2_with fail
  generalize (w.alloc (Obj.cells #[Value.int .i64 den, Value.slice a xs.length cap] 29)) = w0 at *
  have HQ := hide (V.powersOf den a cap xs w0 HS.out)
  simp only [E0.out, E1.out, H0.out] at HQ
  refine HQ.out.mono ?_
  rintro e w1 ⟨rfl, hb⟩
  clear HQ
  have yw1 := hb.size
  replace HS := hide (HS.out.below hb)
  replace HT := hide (HT.out.below hb)
  replace HTB := hide (HTB.out.below hb)
  replace HB := hide (bl_trans HB.out hb)
  clear hb
  have yw2 : w1.heap.size + 1 ≤ (w1.alloc (Obj.cells #[Value.int .i64 (xs.length : Int), Value.int .i64 (V.at8 xs 0), Value.int .i64 (V.at8 xs 1), Value.int .i64 (V.at8 xs 2), Value.int .i64 (V.at8 xs 3), Value.int .i64 (V.at8 xs 4), Value.int .i64 (V.at8 xs 5), Value.int .i64 (V.at8 xs 6), Value.int .i64 (V.at8 xs 7), Value.int .i64 den] 50)).heap.size := by simp only [World.size_alloc]; omega
  have kx0 : (w1.alloc (Obj.cells #[Value.int .i64 (xs.length : Int), Value.int .i64 (V.at8 xs 0), Value.int .i64 (V.at8 xs 1), Value.int .i64 (V.at8 xs 2), Value.int .i64 (V.at8 xs 3), Value.int .i64 (V.at8 xs 4), Value.int .i64 (V.at8 xs 5), Value.int .i64 (V.at8 xs 6), Value.int .i64 (V.at8 xs 7), Value.int .i64 den] 50)).cell? ⟨w1.heap.size, 0, none⟩ = some (Value.int .i64 (xs.length : Int)) := by go_simp
  have kx1 : (w1.alloc (Obj.cells #[Value.int .i64 (xs.length : Int), Value.int .i64 (V.at8 xs 0), Value.int .i64 (V.at8 xs 1), Value.int .i64 (V.at8 xs 2), Value.int .i64 (V.at8 xs 3), Value.int .i64 (V.at8 xs 4), Value.int .i64 (V.at8 xs 5), Value.int .i64 (V.at8 xs 6), Value.int .i64 (V.at8 xs 7), Value.int .i64 den] 50)).cell? ⟨w1.heap.size, 1, none⟩ = some (Value.int .i64 (V.at8 xs 0)) := by go_simp
  have kx2 : (w1.alloc (Obj.cells #[Value.int .i64 (xs.length : Int), Value.int .i64 (V.at8 xs 0), Value.int .i64 (V.at8 xs 1), Value.int .i64 (V.at8 xs 2), Value.int .i64 (V.at8 xs 3), Value.int .i64 (V.at8 xs 4), Value.int .i64 (V.at8 xs 5), Value.int .i64 (V.at8 xs 6), Value.int .i64 (V.at8 xs 7), Value.int .i64 den] 50)).cell? ⟨w1.heap.size, 2, none⟩ = some (Value.int .i64 (V.at8 xs 1)) := by go_simp
  have kx3 : (w1.alloc (Obj.cells #[Value.int .i64 (xs.length : Int), Value.int .i64 (V.at8 xs 0), Value.int .i64 (V.at8 xs 1), Value.int .i64 (V.at8 xs 2), Value.int .i64 (V.at8 xs 3), Value.int .i64 (V.at8 xs 4), Value.int .i64 (V.at8 xs 5), Value.int .i64 (V.at8 xs 6), Value.int .i64 (V.at8 xs 7), Value.int .i64 den] 50)).cell? ⟨w1.heap.size, 3, none⟩ = some (Value.int .i64 (V.at8 xs 2)) := by go_simp
  have kx4 : (w1.alloc (Obj.cells #[Value.int .i64 (xs.length : Int), Value.int .i64 (V.at8 xs 0), Value.int .i64 (V.at8 xs 1), Value.int .i64 (V.at8 xs 2), Value.int .i64 (V.at8 xs 3), Value.int .i64 (V.at8 xs 4), Value.int .i64 (V.at8 xs 5), Value.int .i64 (V.at8 xs 6), Value.int .i64 (V.at8 xs 7), Value.int .i64 den] 50)).cell? ⟨w1.heap.size, 4, none⟩ = some (Value.int .i64 (V.at8 xs 3)) := by go_simp
  have kx5 : (w1.alloc (Obj.cells #[Value.int .i64 (xs.length : Int), Value.int .i64 (V.at8 xs 0), Value.int .i64 (V.at8 xs 1), Value.int .i64 (V.at8 xs 2), Value.int .i64 (V.at8 xs 3), Value.int .i64 (V.at8 xs 4), Value.int .i64 (V.at8 xs 5), Value.int .i64 (V.at8 xs 6), Value.int .i64 (V.at8 xs 7), Value.int .i64 den] 50)).cell? ⟨w1.heap.size, 5, none⟩ = some (Value.int .i64 (V.at8 xs 4)) := by go_simp
  have kx6 : (w1.alloc (Obj.cells #[Value.int .i64 (xs.length : Int), Value.int .i64 (V.at8 xs 0), Value.int .i64 (V.at8 xs 1), Value.int .i64 (V.at8 xs 2), Value.int .i64 (V.at8 xs 3), Value.int .i64 (V.at8 xs 4), Value.int .i64 (V.at8 xs 5), Value.int .i64 (V.at8 xs 6), Value.int .i64 (V.at8 xs 7), Value.int .i64 den] 50)).cell? ⟨w1.heap.size, 6, none⟩ = some (Value.int .i64 (V.at8 xs 5)) := by go_simp
  have kx7 : (w1.alloc (Obj.cells #[Value.int .i64 (xs.length : Int), Value.int .i64 (V.at8 xs 0), Value.int .i64 (V.at8 xs 1), Value.int .i64 (V.at8 xs 2), Value.int .i64 (V.at8 xs 3), Value.int .i64 (V.at8 xs 4), Value.int .i64 (V.at8 xs 5), Value.int .i64 (V.at8 xs 6), Value.int .i64 (V.at8 xs 7), Value.int .i64 den] 50)).cell? ⟨w1.heap.size, 7, none⟩ = some (Value.int .i64 (V.at8 xs 6)) := by go_simp
  have kx8 : (w1.alloc (Obj.cells #[Value.int .i64 (xs.length : Int), Value.int .i64 (V.at8 xs 0), Value.int .i64 (V.at8 xs 1), Value.int .i64 (V.at8 xs 2), Value.int .i64 (V.at8 xs 3), Value.int .i64 (V.at8 xs 4), Value.int .i64 (V.at8 xs 5), Value.int .i64 (V.at8 xs 6), Value.int .i64 (V.at8 xs 7), Value.int .i64 den] 50)).cell? ⟨w1.heap.size, 8, none⟩ = some (Value.int .i64 (V.at8 xs 7)) := by go_simp
  have kx9 : (w1.alloc (Obj.cells #[Value.int .i64 (xs.length : Int), Value.int .i64 (V.at8 xs 0), Value.int .i64 (V.at8 xs 1), Value.int .i64 (V.at8 xs 2), Value.int .i64 (V.at8 xs 3), Value.int .i64 (V.at8 xs 4), Value.int .i64 (V.at8 xs 5), Value.int .i64 (V.at8 xs 6), Value.int .i64 (V.at8 xs 7), Value.int .i64 den] 50)).cell? ⟨w1.heap.size, 9, none⟩ = some (Value.int .i64 den) := by go_simp
  have hbn := (bl_alloc (bl_refl w1) (Obj.cells #[Value.int .i64 (xs.length : Int), Value.int .i64 (V.at8 xs 0), Value.int .i64 (V.at8 xs 1), Value.int .i64 (V.at8 xs 2), Value.int .i64 (V.at8 xs 3), Value.int .i64 (V.at8 xs 4), Value.int .i64 (V.at8 xs 5), Value.int .i64 (V.at8 xs 6), Value.int .i64 (V.at8 xs 7), Value.int .i64 den] 50))
  replace HS := hide (HS.out.below hbn)
  replace HT := hide (HT.out.below hbn)
  replace HTB := hide (HTB.out.below hbn)
  replace HB := hide (bl_trans HB.out hbn)
  clear hbn
  go_wp2_with fail
  generalize (w1.alloc (Obj.cells #[Value.int .i64 (xs.length : Int), Value.int .i64 (V.at8 xs 0), Value.int .i64 (V.at8 xs 1), Value.int .i64 (V.at8 xs 2), Value.int .i64 (V.at8 xs 3), Value.int .i64 (V.at8 xs 4), Value.int .i64 (V.at8 xs 5), Value.int .i64 (V.at8 xs 6), Value.int .i64 (V.at8 xs 7), Value.int .i64 den] 50)) = w2 at *
  have zr : w1.heap.size < w2.heap.size := by omega
  go_ret
  exact ⟨by rw [HR.out]; rfl, HB.out⟩

set_option maxHeartbeats 4000000 in
set_option maxRecDepth 20000 in
theorem vecText_names (den : Int) (a : Option Addr) (cap : Nat) (xs : List Int) (b : Option Addr) (m cb : Nat) (ts : List ByteArray) (w : World) (hs : V.Seg w a xs.length cap xs) (ht : SSeg w b m cb ts) (hz : stot ts ≤ 1048576) (htab : Tabs w) (h0 : V.vokB den xs = true) (h1 : m = xs.length) (h2 : ts.all nameOkB = false) :
    Calls Tryz.prog 9 #[Value.agg #[Value.int .i64 den, Value.slice a xs.length cap], .slice b m cb] w fun e w' => e = .returned (.string (vtxt den xs ts)) ∧ Below w.heap.size w w' := by
  have HR : Hid (vtxt den xs ts = ⟨#[]⟩) := hide (by unfold vtxt vtB; rw [h2]; simp)
  have H2 := hide h2
  clear h2
  obtain ⟨hd, h8, hxr⟩ := at_big h0
  have E0 : Hid (V.pwN xs = xs.length) := hide (if_pos h8)
  have E1 : Hid (∀ j, V.pwF xs j = V.at8 xs j) := hide (fun j => if_pos h8)
  have H0 := hide h0
  have HD := hide hd
  have HXR := hide hxr
  clear h0 hd hxr
  subst h1
  have htl := ht.1
  have hmc := ht.2.1
  have hmc2 := ht.2.2.1
  have hbn := bl_alloc (bl_refl w) (Obj.cells #[Value.int .i64 den, Value.slice a xs.length cap] 29)
  have HS := hide (hs.below hbn)
  have HT := hide (ht.below hbn)
  have HTB := hide (htab.below hbn)
  have HB := hide hbn
  clear hbn hs ht htab
  go_enter Tryz.func9, Tryz.ntmps9
  go_wp2_with fail
  generalize (w.alloc (Obj.cells #[Value.int .i64 den, Value.slice a xs.length cap] 29)) = w0 at *
  have HQ := hide (V.powersOf den a cap xs w0 HS.out)
  simp only [E0.out, E1.out, H0.out] at HQ
  refine HQ.out.mono ?_
  rintro e w1 ⟨rfl, hb⟩
  clear HQ
  have yw1 := hb.size
  replace HS := hide (HS.out.below hb)
  replace HT := hide (HT.out.below hb)
  replace HTB := hide (HTB.out.below hb)
  replace HB := hide (bl_trans HB.out hb)
  clear hb
  have yw2 : w1.heap.size + 1 ≤ (w1.alloc (Obj.cells #[Value.int .i64 (xs.length : Int), Value.int .i64 (V.at8 xs 0), Value.int .i64 (V.at8 xs 1), Value.int .i64 (V.at8 xs 2), Value.int .i64 (V.at8 xs 3), Value.int .i64 (V.at8 xs 4), Value.int .i64 (V.at8 xs 5), Value.int .i64 (V.at8 xs 6), Value.int .i64 (V.at8 xs 7), Value.int .i64 den] 50)).heap.size := by simp only [World.size_alloc]; omega
  have kx0 : (w1.alloc (Obj.cells #[Value.int .i64 (xs.length : Int), Value.int .i64 (V.at8 xs 0), Value.int .i64 (V.at8 xs 1), Value.int .i64 (V.at8 xs 2), Value.int .i64 (V.at8 xs 3), Value.int .i64 (V.at8 xs 4), Value.int .i64 (V.at8 xs 5), Value.int .i64 (V.at8 xs 6), Value.int .i64 (V.at8 xs 7), Value.int .i64 den] 50)).cell? ⟨w1.heap.size, 0, none⟩ = some (Value.int .i64 (xs.length : Int)) := by go_simp
  have kx1 : (w1.alloc (Obj.cells #[Value.int .i64 (xs.length : Int), Value.int .i64 (V.at8 xs 0), Value.int .i64 (V.at8 xs 1), Value.int .i64 (V.at8 xs 2), Value.int .i64 (V.at8 xs 3), Value.int .i64 (V.at8 xs 4), Value.int .i64 (V.at8 xs 5), Value.int .i64 (V.at8 xs 6), Value.int .i64 (V.at8 xs 7), Value.int .i64 den] 50)).cell? ⟨w1.heap.size, 1, none⟩ = some (Value.int .i64 (V.at8 xs 0)) := by go_simp
  have kx2 : (w1.alloc (Obj.cells #[Value.int .i64 (xs.length : Int), Value.int .i64 (V.at8 xs 0), Value.int .i64 (V.at8 xs 1), Value.int .i64 (V.at8 xs 2), Value.int .i64 (V.at8 xs 3), Value.int .i64 (V.at8 xs 4), Value.int .i64 (V.at8 xs 5), Value.int .i64 (V.at8 xs 6), Value.int .i64 (V.at8 xs 7), Value.int .i64 den] 50)).cell? ⟨w1.heap.size, 2, none⟩ = some (Value.int .i64 (V.at8 xs 1)) := by go_simp
  have kx3 : (w1.alloc (Obj.cells #[Value.int .i64 (xs.length : Int), Value.int .i64 (V.at8 xs 0), Value.int .i64 (V.at8 xs 1), Value.int .i64 (V.at8 xs 2), Value.int .i64 (V.at8 xs 3), Value.int .i64 (V.at8 xs 4), Value.int .i64 (V.at8 xs 5), Value.int .i64 (V.at8 xs 6), Value.int .i64 (V.at8 xs 7), Value.int .i64 den] 50)).cell? ⟨w1.heap.size, 3, none⟩ = some (Value.int .i64 (V.at8 xs 2)) := by go_simp
  have kx4 : (w1.alloc (Obj.cells #[Value.int .i64 (xs.length : Int), Value.int .i64 (V.at8 xs 0), Value.int .i64 (V.at8 xs 1), Value.int .i64 (V.at8 xs 2), Value.int .i64 (V.at8 xs 3), Value.int .i64 (V.at8 xs 4), Value.int .i64 (V.at8 xs 5), Value.int .i64 (V.at8 xs 6), Value.int .i64 (V.at8 xs 7), Value.int .i64 den] 50)).cell? ⟨w1.heap.size, 4, none⟩ = some (Value.int .i64 (V.at8 xs 3)) := by go_simp
  have kx5 : (w1.alloc (Obj.cells #[Value.int .i64 (xs.length : Int), Value.int .i64 (V.at8 xs 0), Value.int .i64 (V.at8 xs 1), Value.int .i64 (V.at8 xs 2), Value.int .i64 (V.at8 xs 3), Value.int .i64 (V.at8 xs 4), Value.int .i64 (V.at8 xs 5), Value.int .i64 (V.at8 xs 6), Value.int .i64 (V.at8 xs 7), Value.int .i64 den] 50)).cell? ⟨w1.heap.size, 5, none⟩ = some (Value.int .i64 (V.at8 xs 4)) := by go_simp
  have kx6 : (w1.alloc (Obj.cells #[Value.int .i64 (xs.length : Int), Value.int .i64 (V.at8 xs 0), Value.int .i64 (V.at8 xs 1), Value.int .i64 (V.at8 xs 2), Value.int .i64 (V.at8 xs 3), Value.int .i64 (V.at8 xs 4), Value.int .i64 (V.at8 xs 5), Value.int .i64 (V.at8 xs 6), Value.int .i64 (V.at8 xs 7), Value.int .i64 den] 50)).cell? ⟨w1.heap.size, 6, none⟩ = some (Value.int .i64 (V.at8 xs 5)) := by go_simp
  have kx7 : (w1.alloc (Obj.cells #[Value.int .i64 (xs.length : Int), Value.int .i64 (V.at8 xs 0), Value.int .i64 (V.at8 xs 1), Value.int .i64 (V.at8 xs 2), Value.int .i64 (V.at8 xs 3), Value.int .i64 (V.at8 xs 4), Value.int .i64 (V.at8 xs 5), Value.int .i64 (V.at8 xs 6), Value.int .i64 (V.at8 xs 7), Value.int .i64 den] 50)).cell? ⟨w1.heap.size, 7, none⟩ = some (Value.int .i64 (V.at8 xs 6)) := by go_simp
  have kx8 : (w1.alloc (Obj.cells #[Value.int .i64 (xs.length : Int), Value.int .i64 (V.at8 xs 0), Value.int .i64 (V.at8 xs 1), Value.int .i64 (V.at8 xs 2), Value.int .i64 (V.at8 xs 3), Value.int .i64 (V.at8 xs 4), Value.int .i64 (V.at8 xs 5), Value.int .i64 (V.at8 xs 6), Value.int .i64 (V.at8 xs 7), Value.int .i64 den] 50)).cell? ⟨w1.heap.size, 8, none⟩ = some (Value.int .i64 (V.at8 xs 7)) := by go_simp
  have kx9 : (w1.alloc (Obj.cells #[Value.int .i64 (xs.length : Int), Value.int .i64 (V.at8 xs 0), Value.int .i64 (V.at8 xs 1), Value.int .i64 (V.at8 xs 2), Value.int .i64 (V.at8 xs 3), Value.int .i64 (V.at8 xs 4), Value.int .i64 (V.at8 xs 5), Value.int .i64 (V.at8 xs 6), Value.int .i64 (V.at8 xs 7), Value.int .i64 den] 50)).cell? ⟨w1.heap.size, 9, none⟩ = some (Value.int .i64 den) := by go_simp
  have hbn := (bl_alloc (bl_refl w1) (Obj.cells #[Value.int .i64 (xs.length : Int), Value.int .i64 (V.at8 xs 0), Value.int .i64 (V.at8 xs 1), Value.int .i64 (V.at8 xs 2), Value.int .i64 (V.at8 xs 3), Value.int .i64 (V.at8 xs 4), Value.int .i64 (V.at8 xs 5), Value.int .i64 (V.at8 xs 6), Value.int .i64 (V.at8 xs 7), Value.int .i64 den] 50))
  replace HS := hide (HS.out.below hbn)
  replace HT := hide (HT.out.below hbn)
  replace HTB := hide (HTB.out.below hbn)
  replace HB := hide (bl_trans HB.out hbn)
  clear hbn
  go_wp2_with fail
  generalize (w1.alloc (Obj.cells #[Value.int .i64 (xs.length : Int), Value.int .i64 (V.at8 xs 0), Value.int .i64 (V.at8 xs 1), Value.int .i64 (V.at8 xs 2), Value.int .i64 (V.at8 xs 3), Value.int .i64 (V.at8 xs 4), Value.int .i64 (V.at8 xs 5), Value.int .i64 (V.at8 xs 6), Value.int .i64 (V.at8 xs 7), Value.int .i64 den] 50)) = w2 at *
  have zr : w1.heap.size < w2.heap.size := by omega
  refine (allNamesI b xs.length cb ts _ HT.out hz).mono ?_
  rintro e w3 ⟨rfl, hb⟩
  have yw3 := hb.size
  replace kx0 := (hb.cell (p := ⟨w1.heap.size, 0, none⟩) (by dsimp only; omega)).trans kx0
  replace kx1 := (hb.cell (p := ⟨w1.heap.size, 1, none⟩) (by dsimp only; omega)).trans kx1
  replace kx2 := (hb.cell (p := ⟨w1.heap.size, 2, none⟩) (by dsimp only; omega)).trans kx2
  replace kx3 := (hb.cell (p := ⟨w1.heap.size, 3, none⟩) (by dsimp only; omega)).trans kx3
  replace kx4 := (hb.cell (p := ⟨w1.heap.size, 4, none⟩) (by dsimp only; omega)).trans kx4
  replace kx5 := (hb.cell (p := ⟨w1.heap.size, 5, none⟩) (by dsimp only; omega)).trans kx5
  replace kx6 := (hb.cell (p := ⟨w1.heap.size, 6, none⟩) (by dsimp only; omega)).trans kx6
  replace kx7 := (hb.cell (p := ⟨w1.heap.size, 7, none⟩) (by dsimp only; omega)).trans kx7
  replace kx8 := (hb.cell (p := ⟨w1.heap.size, 8, none⟩) (by dsimp only; omega)).trans kx8
  replace kx9 := (hb.cell (p := ⟨w1.heap.size, 9, none⟩) (by dsimp only; omega)).trans kx9
  replace HS := hide (HS.out.below hb)
  replace HT := hide (HT.out.below hb)
  replace HTB := hide (HTB.out.below hb)
  replace zr := Nat.lt_of_lt_of_le zr hb.size
  replace HB := hide (bl_trans HB.out hb)
  clear hb
  rw [H2.out]
  go_wp2
  go_ret
  exact ⟨by rw [HR.out]; rfl, HB.out⟩

set_option maxHeartbeats 4000000 in
set_option maxRecDepth 20000 in
theorem vecText_one (den : Int) (a : Option Addr) (cap : Nat) (xs : List Int) (b : Option Addr) (m cb : Nat) (ts : List ByteArray) (w : World) (hs : V.Seg w a xs.length cap xs) (ht : SSeg w b m cb ts) (hz : stot ts ≤ 1048576) (htab : Tabs w) (h0 : V.vokB den xs = true) (h1 : m = xs.length) (h2 : ts.all nameOkB = true) (h3 : V.eq8 (V.at8 xs) (fun _ => 0) = true) :
    Calls Tryz.prog 9 #[Value.agg #[Value.int .i64 den, Value.slice a xs.length cap], .slice b m cb] w fun e w' => e = .returned (.string (vtxt den xs ts)) ∧ Below w.heap.size w w' := by
  have hvt : vtB den xs ts = true := by unfold vtB; rw [h0, h2, decide_eq_true (by have := ht.1; omega)]; rfl
  have hnl : ∀ j (h : j < ts.length), 1 ≤ ts[j].size := fun j h => (name_short (all_at h2 j h)).2
  have HR : Hid (vtxt den xs ts = ⟨#[49]⟩) := hide (by unfold vtxt; rw [if_pos hvt, if_pos ((vk_none hnl ts.length (Nat.le_refl _)).2 (fun j hj => (V.eq8_iff _ _).1 h3 j (by have := (at_big h0).2.1; have := ht.1; omega)))])
  have H2 := hide h2
  have H3 := hide h3
  clear hvt hnl h3
  clear h2
  obtain ⟨hd, h8, hxr⟩ := at_big h0
  have E0 : Hid (V.pwN xs = xs.length) := hide (if_pos h8)
  have E1 : Hid (∀ j, V.pwF xs j = V.at8 xs j) := hide (fun j => if_pos h8)
  have H0 := hide h0
  have HD := hide hd
  have HXR := hide hxr
  clear h0 hd hxr
  subst h1
  have htl := ht.1
  have hmc := ht.2.1
  have hmc2 := ht.2.2.1
  have hbn := bl_alloc (bl_refl w) (Obj.cells #[Value.int .i64 den, Value.slice a xs.length cap] 29)
  have HS := hide (hs.below hbn)
  have HT := hide (ht.below hbn)
  have HTB := hide (htab.below hbn)
  have HB := hide hbn
  clear hbn hs ht htab
  go_enter Tryz.func9, Tryz.ntmps9
  go_wp2_with fail
  generalize (w.alloc (Obj.cells #[Value.int .i64 den, Value.slice a xs.length cap] 29)) = w0 at *
  have HQ := hide (V.powersOf den a cap xs w0 HS.out)
  simp only [E0.out, E1.out, H0.out] at HQ
  refine HQ.out.mono ?_
  rintro e w1 ⟨rfl, hb⟩
  clear HQ
  have yw1 := hb.size
  replace HS := hide (HS.out.below hb)
  replace HT := hide (HT.out.below hb)
  replace HTB := hide (HTB.out.below hb)
  replace HB := hide (bl_trans HB.out hb)
  clear hb
  have yw2 : w1.heap.size + 1 ≤ (w1.alloc (Obj.cells #[Value.int .i64 (xs.length : Int), Value.int .i64 (V.at8 xs 0), Value.int .i64 (V.at8 xs 1), Value.int .i64 (V.at8 xs 2), Value.int .i64 (V.at8 xs 3), Value.int .i64 (V.at8 xs 4), Value.int .i64 (V.at8 xs 5), Value.int .i64 (V.at8 xs 6), Value.int .i64 (V.at8 xs 7), Value.int .i64 den] 50)).heap.size := by simp only [World.size_alloc]; omega
  have kx0 : (w1.alloc (Obj.cells #[Value.int .i64 (xs.length : Int), Value.int .i64 (V.at8 xs 0), Value.int .i64 (V.at8 xs 1), Value.int .i64 (V.at8 xs 2), Value.int .i64 (V.at8 xs 3), Value.int .i64 (V.at8 xs 4), Value.int .i64 (V.at8 xs 5), Value.int .i64 (V.at8 xs 6), Value.int .i64 (V.at8 xs 7), Value.int .i64 den] 50)).cell? ⟨w1.heap.size, 0, none⟩ = some (Value.int .i64 (xs.length : Int)) := by go_simp
  have kx1 : (w1.alloc (Obj.cells #[Value.int .i64 (xs.length : Int), Value.int .i64 (V.at8 xs 0), Value.int .i64 (V.at8 xs 1), Value.int .i64 (V.at8 xs 2), Value.int .i64 (V.at8 xs 3), Value.int .i64 (V.at8 xs 4), Value.int .i64 (V.at8 xs 5), Value.int .i64 (V.at8 xs 6), Value.int .i64 (V.at8 xs 7), Value.int .i64 den] 50)).cell? ⟨w1.heap.size, 1, none⟩ = some (Value.int .i64 (V.at8 xs 0)) := by go_simp
  have kx2 : (w1.alloc (Obj.cells #[Value.int .i64 (xs.length : Int), Value.int .i64 (V.at8 xs 0), Value.int .i64 (V.at8 xs 1), Value.int .i64 (V.at8 xs 2), Value.int .i64 (V.at8 xs 3), Value.int .i64 (V.at8 xs 4), Value.int .i64 (V.at8 xs 5), Value.int .i64 (V.at8 xs 6), Value.int .i64 (V.at8 xs 7), Value.int .i64 den] 50)).cell? ⟨w1.heap.size, 2, none⟩ = some (Value.int .i64 (V.at8 xs 1)) := by go_simp
  have kx3 : (w1.alloc (Obj.cells #[Value.int .i64 (xs.length : Int), Value.int .i64 (V.at8 xs 0), Value.int .i64 (V.at8 xs 1), Value.int .i64 (V.at8 xs 2), Value.int .i64 (V.at8 xs 3), Value.int .i64 (V.at8 xs 4), Value.int .i64 (V.at8 xs 5), Value.int .i64 (V.at8 xs 6), Value.int .i64 (V.at8 xs 7), Value.int .i64 den] 50)).cell? ⟨w1.heap.size, 3, none⟩ = some (Value.int .i64 (V.at8 xs 2)) := by go_simp
  have kx4 : (w1.alloc (Obj.cells #[Value.int .i64 (xs.length : Int), Value.int .i64 (V.at8 xs 0), Value.int .i64 (V.at8 xs 1), Value.int .i64 (V.at8 xs 2), Value.int .i64 (V.at8 xs 3), Value.int .i64 (V.at8 xs 4), Value.int .i64 (V.at8 xs 5), Value.int .i64 (V.at8 xs 6), Value.int .i64 (V.at8 xs 7), Value.int .i64 den] 50)).cell? ⟨w1.heap.size, 4, none⟩ = some (Value.int .i64 (V.at8 xs 3)) := by go_simp
  have kx5 : (w1.alloc (Obj.cells #[Value.int .i64 (xs.length : Int), Value.int .i64 (V.at8 xs 0), Value.int .i64 (V.at8 xs 1), Value.int .i64 (V.at8 xs 2), Value.int .i64 (V.at8 xs 3), Value.int .i64 (V.at8 xs 4), Value.int .i64 (V.at8 xs 5), Value.int .i64 (V.at8 xs 6), Value.int .i64 (V.at8 xs 7), Value.int .i64 den] 50)).cell? ⟨w1.heap.size, 5, none⟩ = some (Value.int .i64 (V.at8 xs 4)) := by go_simp
  have kx6 : (w1.alloc (Obj.cells #[Value.int .i64 (xs.length : Int), Value.int .i64 (V.at8 xs 0), Value.int .i64 (V.at8 xs 1), Value.int .i64 (V.at8 xs 2), Value.int .i64 (V.at8 xs 3), Value.int .i64 (V.at8 xs 4), Value.int .i64 (V.at8 xs 5), Value.int .i64 (V.at8 xs 6), Value.int .i64 (V.at8 xs 7), Value.int .i64 den] 50)).cell? ⟨w1.heap.size, 6, none⟩ = some (Value.int .i64 (V.at8 xs 5)) := by go_simp
  have kx7 : (w1.alloc (Obj.cells #[Value.int .i64 (xs.length : Int), Value.int .i64 (V.at8 xs 0), Value.int .i64 (V.at8 xs 1), Value.int .i64 (V.at8 xs 2), Value.int .i64 (V.at8 xs 3), Value.int .i64 (V.at8 xs 4), Value.int .i64 (V.at8 xs 5), Value.int .i64 (V.at8 xs 6), Value.int .i64 (V.at8 xs 7), Value.int .i64 den] 50)).cell? ⟨w1.heap.size, 7, none⟩ = some (Value.int .i64 (V.at8 xs 6)) := by go_simp
  have kx8 : (w1.alloc (Obj.cells #[Value.int .i64 (xs.length : Int), Value.int .i64 (V.at8 xs 0), Value.int .i64 (V.at8 xs 1), Value.int .i64 (V.at8 xs 2), Value.int .i64 (V.at8 xs 3), Value.int .i64 (V.at8 xs 4), Value.int .i64 (V.at8 xs 5), Value.int .i64 (V.at8 xs 6), Value.int .i64 (V.at8 xs 7), Value.int .i64 den] 50)).cell? ⟨w1.heap.size, 8, none⟩ = some (Value.int .i64 (V.at8 xs 7)) := by go_simp
  have kx9 : (w1.alloc (Obj.cells #[Value.int .i64 (xs.length : Int), Value.int .i64 (V.at8 xs 0), Value.int .i64 (V.at8 xs 1), Value.int .i64 (V.at8 xs 2), Value.int .i64 (V.at8 xs 3), Value.int .i64 (V.at8 xs 4), Value.int .i64 (V.at8 xs 5), Value.int .i64 (V.at8 xs 6), Value.int .i64 (V.at8 xs 7), Value.int .i64 den] 50)).cell? ⟨w1.heap.size, 9, none⟩ = some (Value.int .i64 den) := by go_simp
  have hbn := (bl_alloc (bl_refl w1) (Obj.cells #[Value.int .i64 (xs.length : Int), Value.int .i64 (V.at8 xs 0), Value.int .i64 (V.at8 xs 1), Value.int .i64 (V.at8 xs 2), Value.int .i64 (V.at8 xs 3), Value.int .i64 (V.at8 xs 4), Value.int .i64 (V.at8 xs 5), Value.int .i64 (V.at8 xs 6), Value.int .i64 (V.at8 xs 7), Value.int .i64 den] 50))
  replace HS := hide (HS.out.below hbn)
  replace HT := hide (HT.out.below hbn)
  replace HTB := hide (HTB.out.below hbn)
  replace HB := hide (bl_trans HB.out hbn)
  clear hbn
  go_wp2_with fail
  generalize (w1.alloc (Obj.cells #[Value.int .i64 (xs.length : Int), Value.int .i64 (V.at8 xs 0), Value.int .i64 (V.at8 xs 1), Value.int .i64 (V.at8 xs 2), Value.int .i64 (V.at8 xs 3), Value.int .i64 (V.at8 xs 4), Value.int .i64 (V.at8 xs 5), Value.int .i64 (V.at8 xs 6), Value.int .i64 (V.at8 xs 7), Value.int .i64 den] 50)) = w2 at *
  have zr : w1.heap.size < w2.heap.size := by omega
  refine (allNamesI b xs.length cb ts _ HT.out hz).mono ?_
  rintro e w3 ⟨rfl, hb⟩
  have yw3 := hb.size
  replace kx0 := (hb.cell (p := ⟨w1.heap.size, 0, none⟩) (by dsimp only; omega)).trans kx0
  replace kx1 := (hb.cell (p := ⟨w1.heap.size, 1, none⟩) (by dsimp only; omega)).trans kx1
  replace kx2 := (hb.cell (p := ⟨w1.heap.size, 2, none⟩) (by dsimp only; omega)).trans kx2
  replace kx3 := (hb.cell (p := ⟨w1.heap.size, 3, none⟩) (by dsimp only; omega)).trans kx3
  replace kx4 := (hb.cell (p := ⟨w1.heap.size, 4, none⟩) (by dsimp only; omega)).trans kx4
  replace kx5 := (hb.cell (p := ⟨w1.heap.size, 5, none⟩) (by dsimp only; omega)).trans kx5
  replace kx6 := (hb.cell (p := ⟨w1.heap.size, 6, none⟩) (by dsimp only; omega)).trans kx6
  replace kx7 := (hb.cell (p := ⟨w1.heap.size, 7, none⟩) (by dsimp only; omega)).trans kx7
  replace kx8 := (hb.cell (p := ⟨w1.heap.size, 8, none⟩) (by dsimp only; omega)).trans kx8
  replace kx9 := (hb.cell (p := ⟨w1.heap.size, 9, none⟩) (by dsimp only; omega)).trans kx9
  replace HS := hide (HS.out.below hb)
  replace HT := hide (HT.out.below hb)
  replace HTB := hide (HTB.out.below hb)
  replace zr := Nat.lt_of_lt_of_le zr hb.size
  replace HB := hide (bl_trans HB.out hb)
  clear hb
  rw [H2.out]
  go_wp2_with fail
  refine (noughtP (xs.length : Int) (V.at8 xs) _).mono ?_
  rintro e w4 ⟨rfl, hb⟩
  have yw4 := hb.size
  replace kx0 := (hb.cell (p := ⟨w1.heap.size, 0, none⟩) (by dsimp only; omega)).trans kx0
  replace kx1 := (hb.cell (p := ⟨w1.heap.size, 1, none⟩) (by dsimp only; omega)).trans kx1
  replace kx2 := (hb.cell (p := ⟨w1.heap.size, 2, none⟩) (by dsimp only; omega)).trans kx2
  replace kx3 := (hb.cell (p := ⟨w1.heap.size, 3, none⟩) (by dsimp only; omega)).trans kx3
  replace kx4 := (hb.cell (p := ⟨w1.heap.size, 4, none⟩) (by dsimp only; omega)).trans kx4
  replace kx5 := (hb.cell (p := ⟨w1.heap.size, 5, none⟩) (by dsimp only; omega)).trans kx5
  replace kx6 := (hb.cell (p := ⟨w1.heap.size, 6, none⟩) (by dsimp only; omega)).trans kx6
  replace kx7 := (hb.cell (p := ⟨w1.heap.size, 7, none⟩) (by dsimp only; omega)).trans kx7
  replace kx8 := (hb.cell (p := ⟨w1.heap.size, 8, none⟩) (by dsimp only; omega)).trans kx8
  replace kx9 := (hb.cell (p := ⟨w1.heap.size, 9, none⟩) (by dsimp only; omega)).trans kx9
  replace HS := hide (HS.out.below hb)
  replace HT := hide (HT.out.below hb)
  replace HTB := hide (HTB.out.below hb)
  replace zr := Nat.lt_of_lt_of_le zr hb.size
  replace HB := hide (bl_trans HB.out hb)
  clear hb
  rw [H3.out]
  go_wp2
  go_ret
  exact ⟨by rw [HR.out]; rfl, HB.out⟩

set_option maxHeartbeats 4000000 in
set_option maxRecDepth 20000 in
theorem vecText_more (den : Int) (a : Option Addr) (cap : Nat) (xs : List Int) (b : Option Addr) (m cb : Nat) (ts : List ByteArray) (w : World) (hs : V.Seg w a xs.length cap xs) (ht : SSeg w b m cb ts) (hz : stot ts ≤ 1048576) (htab : Tabs w) (h0 : V.vokB den xs = true) (h1 : m = xs.length) (h2 : ts.all nameOkB = true) (h3 : V.eq8 (V.at8 xs) (fun _ => 0) = false) :
    Calls Tryz.prog 9 #[Value.agg #[Value.int .i64 den, Value.slice a xs.length cap], .slice b m cb] w fun e w' => e = .returned (.string (vtxt den xs ts)) ∧ Below w.heap.size w w' := by
  have hvt : vtB den xs ts = true := by unfold vtB; rw [h0, h2, decide_eq_true (by have := ht.1; omega)]; rfl
  have hnl : ∀ j (h : j < ts.length), 1 ≤ ts[j].size := fun j h => (name_short (all_at h2 j h)).2
  have HR : Hid (vtxt den xs ts = ⟨(vk den xs ts ts.length).toArray⟩) := hide (by
    unfold vtxt; rw [if_pos hvt, if_neg ?_]
    intro hh
    have hz8 := (vk_none hnl ts.length (Nat.le_refl _)).1 hh
    have : V.eq8 (V.at8 xs) (fun _ => 0) = true := (V.eq8_iff _ _).2 (fun j _ => by
      by_cases hj : j < ts.length
      · exact hz8 j hj
      · exact V.at8_ge (by have := ht.1; omega))
    rw [h3] at this; exact absurd this (by decide))
  have H2 := hide h2
  have H3 := hide h3
  have HNL := hide (fun j (h : j < ts.length) => name_short (all_at h2 j h))
  clear hvt hnl h3 h2
  obtain ⟨hd, h8, hxr⟩ := at_big h0
  have E0 : Hid (V.pwN xs = xs.length) := hide (if_pos h8)
  have E1 : Hid (∀ j, V.pwF xs j = V.at8 xs j) := hide (fun j => if_pos h8)
  have H0 := hide h0
  have HD := hide hd
  have HXR := hide hxr
  clear h0 hd hxr
  subst h1
  have htl := ht.1
  have hmc := ht.2.1
  have hmc2 := ht.2.2.1
  have hbn := bl_alloc (bl_refl w) (Obj.cells #[Value.int .i64 den, Value.slice a xs.length cap] 29)
  have HS := hide (hs.below hbn)
  have HT := hide (ht.below hbn)
  have HTB := hide (htab.below hbn)
  have HB := hide hbn
  clear hbn hs ht htab
  go_enter Tryz.func9, Tryz.ntmps9
  go_wp2_with fail
  generalize (w.alloc (Obj.cells #[Value.int .i64 den, Value.slice a xs.length cap] 29)) = w0 at *
  have HQ := hide (V.powersOf den a cap xs w0 HS.out)
  simp only [E0.out, E1.out, H0.out] at HQ
  refine HQ.out.mono ?_
  rintro e w1 ⟨rfl, hb⟩
  clear HQ
  have yw1 := hb.size
  replace HS := hide (HS.out.below hb)
  replace HT := hide (HT.out.below hb)
  replace HTB := hide (HTB.out.below hb)
  replace HB := hide (bl_trans HB.out hb)
  clear hb
  have yw2 : w1.heap.size + 1 ≤ (w1.alloc (Obj.cells #[Value.int .i64 (xs.length : Int), Value.int .i64 (V.at8 xs 0), Value.int .i64 (V.at8 xs 1), Value.int .i64 (V.at8 xs 2), Value.int .i64 (V.at8 xs 3), Value.int .i64 (V.at8 xs 4), Value.int .i64 (V.at8 xs 5), Value.int .i64 (V.at8 xs 6), Value.int .i64 (V.at8 xs 7), Value.int .i64 den] 50)).heap.size := by simp only [World.size_alloc]; omega
  have kx0 : (w1.alloc (Obj.cells #[Value.int .i64 (xs.length : Int), Value.int .i64 (V.at8 xs 0), Value.int .i64 (V.at8 xs 1), Value.int .i64 (V.at8 xs 2), Value.int .i64 (V.at8 xs 3), Value.int .i64 (V.at8 xs 4), Value.int .i64 (V.at8 xs 5), Value.int .i64 (V.at8 xs 6), Value.int .i64 (V.at8 xs 7), Value.int .i64 den] 50)).cell? ⟨w1.heap.size, 0, none⟩ = some (Value.int .i64 (xs.length : Int)) := by go_simp
  have kx1 : (w1.alloc (Obj.cells #[Value.int .i64 (xs.length : Int), Value.int .i64 (V.at8 xs 0), Value.int .i64 (V.at8 xs 1), Value.int .i64 (V.at8 xs 2), Value.int .i64 (V.at8 xs 3), Value.int .i64 (V.at8 xs 4), Value.int .i64 (V.at8 xs 5), Value.int .i64 (V.at8 xs 6), Value.int .i64 (V.at8 xs 7), Value.int .i64 den] 50)).cell? ⟨w1.heap.size, 1, none⟩ = some (Value.int .i64 (V.at8 xs 0)) := by go_simp
  have kx2 : (w1.alloc (Obj.cells #[Value.int .i64 (xs.length : Int), Value.int .i64 (V.at8 xs 0), Value.int .i64 (V.at8 xs 1), Value.int .i64 (V.at8 xs 2), Value.int .i64 (V.at8 xs 3), Value.int .i64 (V.at8 xs 4), Value.int .i64 (V.at8 xs 5), Value.int .i64 (V.at8 xs 6), Value.int .i64 (V.at8 xs 7), Value.int .i64 den] 50)).cell? ⟨w1.heap.size, 2, none⟩ = some (Value.int .i64 (V.at8 xs 1)) := by go_simp
  have kx3 : (w1.alloc (Obj.cells #[Value.int .i64 (xs.length : Int), Value.int .i64 (V.at8 xs 0), Value.int .i64 (V.at8 xs 1), Value.int .i64 (V.at8 xs 2), Value.int .i64 (V.at8 xs 3), Value.int .i64 (V.at8 xs 4), Value.int .i64 (V.at8 xs 5), Value.int .i64 (V.at8 xs 6), Value.int .i64 (V.at8 xs 7), Value.int .i64 den] 50)).cell? ⟨w1.heap.size, 3, none⟩ = some (Value.int .i64 (V.at8 xs 2)) := by go_simp
  have kx4 : (w1.alloc (Obj.cells #[Value.int .i64 (xs.length : Int), Value.int .i64 (V.at8 xs 0), Value.int .i64 (V.at8 xs 1), Value.int .i64 (V.at8 xs 2), Value.int .i64 (V.at8 xs 3), Value.int .i64 (V.at8 xs 4), Value.int .i64 (V.at8 xs 5), Value.int .i64 (V.at8 xs 6), Value.int .i64 (V.at8 xs 7), Value.int .i64 den] 50)).cell? ⟨w1.heap.size, 4, none⟩ = some (Value.int .i64 (V.at8 xs 3)) := by go_simp
  have kx5 : (w1.alloc (Obj.cells #[Value.int .i64 (xs.length : Int), Value.int .i64 (V.at8 xs 0), Value.int .i64 (V.at8 xs 1), Value.int .i64 (V.at8 xs 2), Value.int .i64 (V.at8 xs 3), Value.int .i64 (V.at8 xs 4), Value.int .i64 (V.at8 xs 5), Value.int .i64 (V.at8 xs 6), Value.int .i64 (V.at8 xs 7), Value.int .i64 den] 50)).cell? ⟨w1.heap.size, 5, none⟩ = some (Value.int .i64 (V.at8 xs 4)) := by go_simp
  have kx6 : (w1.alloc (Obj.cells #[Value.int .i64 (xs.length : Int), Value.int .i64 (V.at8 xs 0), Value.int .i64 (V.at8 xs 1), Value.int .i64 (V.at8 xs 2), Value.int .i64 (V.at8 xs 3), Value.int .i64 (V.at8 xs 4), Value.int .i64 (V.at8 xs 5), Value.int .i64 (V.at8 xs 6), Value.int .i64 (V.at8 xs 7), Value.int .i64 den] 50)).cell? ⟨w1.heap.size, 6, none⟩ = some (Value.int .i64 (V.at8 xs 5)) := by go_simp
  have kx7 : (w1.alloc (Obj.cells #[Value.int .i64 (xs.length : Int), Value.int .i64 (V.at8 xs 0), Value.int .i64 (V.at8 xs 1), Value.int .i64 (V.at8 xs 2), Value.int .i64 (V.at8 xs 3), Value.int .i64 (V.at8 xs 4), Value.int .i64 (V.at8 xs 5), Value.int .i64 (V.at8 xs 6), Value.int .i64 (V.at8 xs 7), Value.int .i64 den] 50)).cell? ⟨w1.heap.size, 7, none⟩ = some (Value.int .i64 (V.at8 xs 6)) := by go_simp
  have kx8 : (w1.alloc (Obj.cells #[Value.int .i64 (xs.length : Int), Value.int .i64 (V.at8 xs 0), Value.int .i64 (V.at8 xs 1), Value.int .i64 (V.at8 xs 2), Value.int .i64 (V.at8 xs 3), Value.int .i64 (V.at8 xs 4), Value.int .i64 (V.at8 xs 5), Value.int .i64 (V.at8 xs 6), Value.int .i64 (V.at8 xs 7), Value.int .i64 den] 50)).cell? ⟨w1.heap.size, 8, none⟩ = some (Value.int .i64 (V.at8 xs 7)) := by go_simp
  have kx9 : (w1.alloc (Obj.cells #[Value.int .i64 (xs.length : Int), Value.int .i64 (V.at8 xs 0), Value.int .i64 (V.at8 xs 1), Value.int .i64 (V.at8 xs 2), Value.int .i64 (V.at8 xs 3), Value.int .i64 (V.at8 xs 4), Value.int .i64 (V.at8 xs 5), Value.int .i64 (V.at8 xs 6), Value.int .i64 (V.at8 xs 7), Value.int .i64 den] 50)).cell? ⟨w1.heap.size, 9, none⟩ = some (Value.int .i64 den) := by go_simp
  have hbn := (bl_alloc (bl_refl w1) (Obj.cells #[Value.int .i64 (xs.length : Int), Value.int .i64 (V.at8 xs 0), Value.int .i64 (V.at8 xs 1), Value.int .i64 (V.at8 xs 2), Value.int .i64 (V.at8 xs 3), Value.int .i64 (V.at8 xs 4), Value.int .i64 (V.at8 xs 5), Value.int .i64 (V.at8 xs 6), Value.int .i64 (V.at8 xs 7), Value.int .i64 den] 50))
  replace HS := hide (HS.out.below hbn)
  replace HT := hide (HT.out.below hbn)
  replace HTB := hide (HTB.out.below hbn)
  replace HB := hide (bl_trans HB.out hbn)
  clear hbn
  go_wp2_with fail
  generalize (w1.alloc (Obj.cells #[Value.int .i64 (xs.length : Int), Value.int .i64 (V.at8 xs 0), Value.int .i64 (V.at8 xs 1), Value.int .i64 (V.at8 xs 2), Value.int .i64 (V.at8 xs 3), Value.int .i64 (V.at8 xs 4), Value.int .i64 (V.at8 xs 5), Value.int .i64 (V.at8 xs 6), Value.int .i64 (V.at8 xs 7), Value.int .i64 den] 50)) = w2 at *
  have zr : w1.heap.size < w2.heap.size := by omega
  refine (allNamesI b xs.length cb ts _ HT.out hz).mono ?_
  rintro e w3 ⟨rfl, hb⟩
  have yw3 := hb.size
  replace kx0 := (hb.cell (p := ⟨w1.heap.size, 0, none⟩) (by dsimp only; omega)).trans kx0
  replace kx1 := (hb.cell (p := ⟨w1.heap.size, 1, none⟩) (by dsimp only; omega)).trans kx1
  replace kx2 := (hb.cell (p := ⟨w1.heap.size, 2, none⟩) (by dsimp only; omega)).trans kx2
  replace kx3 := (hb.cell (p := ⟨w1.heap.size, 3, none⟩) (by dsimp only; omega)).trans kx3
  replace kx4 := (hb.cell (p := ⟨w1.heap.size, 4, none⟩) (by dsimp only; omega)).trans kx4
  replace kx5 := (hb.cell (p := ⟨w1.heap.size, 5, none⟩) (by dsimp only; omega)).trans kx5
  replace kx6 := (hb.cell (p := ⟨w1.heap.size, 6, none⟩) (by dsimp only; omega)).trans kx6
  replace kx7 := (hb.cell (p := ⟨w1.heap.size, 7, none⟩) (by dsimp only; omega)).trans kx7
  replace kx8 := (hb.cell (p := ⟨w1.heap.size, 8, none⟩) (by dsimp only; omega)).trans kx8
  replace kx9 := (hb.cell (p := ⟨w1.heap.size, 9, none⟩) (by dsimp only; omega)).trans kx9
  replace HS := hide (HS.out.below hb)
  replace HT := hide (HT.out.below hb)
  replace HTB := hide (HTB.out.below hb)
  replace zr := Nat.lt_of_lt_of_le zr hb.size
  replace HB := hide (bl_trans HB.out hb)
  clear hb
  rw [H2.out]
  go_wp2_with fail
  refine (noughtP (xs.length : Int) (V.at8 xs) _).mono ?_
  rintro e w4 ⟨rfl, hb⟩
  have yw4 := hb.size
  replace kx0 := (hb.cell (p := ⟨w1.heap.size, 0, none⟩) (by dsimp only; omega)).trans kx0
  replace kx1 := (hb.cell (p := ⟨w1.heap.size, 1, none⟩) (by dsimp only; omega)).trans kx1
  replace kx2 := (hb.cell (p := ⟨w1.heap.size, 2, none⟩) (by dsimp only; omega)).trans kx2
  replace kx3 := (hb.cell (p := ⟨w1.heap.size, 3, none⟩) (by dsimp only; omega)).trans kx3
  replace kx4 := (hb.cell (p := ⟨w1.heap.size, 4, none⟩) (by dsimp only; omega)).trans kx4
  replace kx5 := (hb.cell (p := ⟨w1.heap.size, 5, none⟩) (by dsimp only; omega)).trans kx5
  replace kx6 := (hb.cell (p := ⟨w1.heap.size, 6, none⟩) (by dsimp only; omega)).trans kx6
  replace kx7 := (hb.cell (p := ⟨w1.heap.size, 7, none⟩) (by dsimp only; omega)).trans kx7
  replace kx8 := (hb.cell (p := ⟨w1.heap.size, 8, none⟩) (by dsimp only; omega)).trans kx8
  replace kx9 := (hb.cell (p := ⟨w1.heap.size, 9, none⟩) (by dsimp only; omega)).trans kx9
  replace HS := hide (HS.out.below hb)
  replace HT := hide (HT.out.below hb)
  replace HTB := hide (HTB.out.below hb)
  replace zr := Nat.lt_of_lt_of_le zr hb.size
  replace HB := hide (bl_trans HB.out hb)
  clear hb
  rw [H3.out]
  go_wp2_with fail
  have HI0 := hide (Lib.fresh_isBuilder 58 5 w4)
  have HB0 := hide (bl_alloc (bl_refl w4) (.cells #[.pointer none, .slice none 0 0] 58))
  have KX : Hid (∀ j, j < 8 → w4.cell? ⟨w1.heap.size, 1 + j, none⟩ = some (.int .i64 (V.at8 xs j))) := hide (fun j hj => by
    rcases j with _ | _ | _ | _ | _ | _ | _ | _ | j
    all_goals first | omega | assumption)
  have yB : w1.heap.size < w4.heap.size := zr
  have HZ := hide hz
  clear zr hz
  go_loopw [35] (fun i wr => ∃ k : Nat, k ≤ xs.length ∧ i = .int .i64 k ∧ Hid (Lib.IsBuilder 58 5 w4.heap.size w4.heap.size (Lib.byteCells (vk den xs ts k)) wr) ∧ Hid (Below w4.heap.size w4 wr) ∧ w4.heap.size < wr.heap.size) (fun i _ => xs.length - (intOf i).toNat)
  case atStart => exact ⟨0, Nat.zero_le _, rfl, HI0, HB0, by simp only [World.size_alloc]; omega⟩
  case round =>
    obtain ⟨k, hk, rfl, hI, hb, hzz⟩ := hrel
    clear HI0 HB0
    by_cases hlt : k < xs.length
    · have hlt' : (k : Int) < (xs.length : Int) := by omega
      have hkx : k < ts.length := by omega
      obtain ⟨g, o, rfl, hg, c0⟩ := (HT.out.below hb.out).at hkx
      have hk8 : k < 8 := by omega
      have hk8' : (k : Int) < 8 := by omega
      have kxi := (hb.out.cell (p := ⟨w1.heap.size, 1 + k, none⟩) (by dsimp only; omega)).trans (KX.out k hk8)
      have d0 := (hb.out.cell (p := ⟨w1.heap.size, 0, none⟩) (by dsimp only; omega)).trans kx0
      have d1 := (hb.out.cell (p := ⟨w1.heap.size, 1, none⟩) (by dsimp only; omega)).trans kx1
      have d2 := (hb.out.cell (p := ⟨w1.heap.size, 2, none⟩) (by dsimp only; omega)).trans kx2
      have d3 := (hb.out.cell (p := ⟨w1.heap.size, 3, none⟩) (by dsimp only; omega)).trans kx3
      have d4 := (hb.out.cell (p := ⟨w1.heap.size, 4, none⟩) (by dsimp only; omega)).trans kx4
      have d5 := (hb.out.cell (p := ⟨w1.heap.size, 5, none⟩) (by dsimp only; omega)).trans kx5
      have d6 := (hb.out.cell (p := ⟨w1.heap.size, 6, none⟩) (by dsimp only; omega)).trans kx6
      have d7 := (hb.out.cell (p := ⟨w1.heap.size, 7, none⟩) (by dsimp only; omega)).trans kx7
      have d8 := (hb.out.cell (p := ⟨w1.heap.size, 8, none⟩) (by dsimp only; omega)).trans kx8
      have d9 := (hb.out.cell (p := ⟨w1.heap.size, 9, none⟩) (by dsimp only; omega)).trans kx9
      have hsz := (HNL.out k hkx).1
      have hvl := vk_len (ts := ts) HD.out HXR.out k (by omega) (fun j h _ => (HNL.out j h).1)
      have HTW := hide (HTB.out.below hb.out)
      have hxk := HXR.out k
      have hul := up_le (x := V.at8 xs k) (d := den) (by omega) (by have := HD.out; omega)
      by_cases hx0 : V.at8 xs k = 0
      · have HV := hide (vk_zero (den := den) (ts := ts) hx0)
        rw [hx0] at kxi
        clear hvl hul
        go_wp2
        exact ⟨⟨k + 1, by omega, by go_num, hide (by rw [HV.out]; exact hI.out), hb, hzz⟩, by simp [intOf]; omega⟩
      have hx0b : (V.at8 xs k == 0) = false := by rw [beq_eq_false_iff_ne]; exact hx0
      have HVL := hide hvl
      have HUL := hide hul
      have HSZ := hide hsz
      clear hvl hul hsz
      by_cases h0 : (vk den xs ts k).length = 0
      · have HV := hide (vk_first (den := den) hkx hx0 h0)
        generalize ts[k] = s at *
        have HUP := hide (fun wx (h : Tabs wx) => upTextI (xs.length : Int) den (V.at8 xs) k wx hk8 hxk HD.out h)
        generalize upT (V.at8 xs k) den = u at *
        have hlen0 : ¬ (0 : Int) < ((Lib.byteCells (vk den xs ts k)).length : Int) := by rw [Lib.byteCells_length, h0]; decide
        have hI0 := hI.out
        go_wp2_with (first
          | (go_at_call 21; refine (Tryz.Builder_Len w4.heap.size w4.heap.size _ _ hI0).mono ?_; rintro e w2 ⟨rfl, hw2⟩; subst w2)
          | (go_at_call_of 22 (Value.string s); refine (writeS w4.heap.size w4.heap.size _ s _ hI0 ?_ ?_).mono ?_; (rw [Lib.byteCells_length]; have := HVL.out; have := HSZ.out; have := HUL.out; have : (ByteArray.mk #[32]).size = 1 := rfl; omega); omega; rintro e wb ⟨rfl, hIwb, hbwb, -⟩; have HIwb := hide hIwb; have HBwb := hide ((hb.out).trans hbwb); have qwb := hbwb.size; clear hIwb hbwb; have d0 := (HBwb.out.cell (p := ⟨w1.heap.size, 0, none⟩) (by dsimp only; omega)).trans kx0; have d1 := (HBwb.out.cell (p := ⟨w1.heap.size, 1, none⟩) (by dsimp only; omega)).trans kx1; have d2 := (HBwb.out.cell (p := ⟨w1.heap.size, 2, none⟩) (by dsimp only; omega)).trans kx2; have d3 := (HBwb.out.cell (p := ⟨w1.heap.size, 3, none⟩) (by dsimp only; omega)).trans kx3; have d4 := (HBwb.out.cell (p := ⟨w1.heap.size, 4, none⟩) (by dsimp only; omega)).trans kx4; have d5 := (HBwb.out.cell (p := ⟨w1.heap.size, 5, none⟩) (by dsimp only; omega)).trans kx5; have d6 := (HBwb.out.cell (p := ⟨w1.heap.size, 6, none⟩) (by dsimp only; omega)).trans kx6; have d7 := (HBwb.out.cell (p := ⟨w1.heap.size, 7, none⟩) (by dsimp only; omega)).trans kx7; have d8 := (HBwb.out.cell (p := ⟨w1.heap.size, 8, none⟩) (by dsimp only; omega)).trans kx8; have d9 := (HBwb.out.cell (p := ⟨w1.heap.size, 9, none⟩) (by dsimp only; omega)).trans kx9; have HTW := hide (HTB.out.below HBwb.out))
          | (go_at_call 23; refine (HUP.out _ HTW.out).mono ?_; rintro e wc ⟨rfl, hbc⟩; have HIwb2 := hide (isb_bel HIwb.out hbc); have HBwc := hide (HBwb.out.trans (hbc.mono (by omega))); have qwc := hbc.size; clear hbc)
          | (go_at_call_of 22 (Value.string u); refine (writeS w4.heap.size w4.heap.size _ u _ HIwb2.out ?_ ?_).mono ?_; (simp only [List.length_append, Lib.byteCells_length, Lib.strCells_length]; have := HVL.out; have := HSZ.out; have := HUL.out; have : (ByteArray.mk #[32]).size = 1 := rfl; omega); omega; rintro e wd ⟨rfl, hIwd, hbwd, -⟩; have HIwd := hide hIwd; have HBwd := hide ((HBwc.out).trans hbwd); have qwd := hbwd.size; clear hIwd hbwd; skip))
        exact ⟨⟨k + 1, by omega, by go_num, hide (by rw [HV.out]; have hh := HIwd.out; rw [bytes_app, bytes_app, List.eq_nil_of_length_eq_zero h0, List.nil_append] at hh; exact hh), HBwd, by omega⟩, by simp [intOf]; omega⟩
      · have HV := hide (vk_more (den := den) hkx hx0 h0)
        generalize ts[k] = s at *
        have HUP := hide (fun wx (h : Tabs wx) => upTextI (xs.length : Int) den (V.at8 xs) k wx hk8 hxk HD.out h)
        generalize upT (V.at8 xs k) den = u at *
        have hlen0 : (0 : Int) < ((Lib.byteCells (vk den xs ts k)).length : Int) := by rw [Lib.byteCells_length]; omega
        have hI0 := hI.out
        go_wp2_with (first
          | (go_at_call 21; refine (Tryz.Builder_Len w4.heap.size w4.heap.size _ _ hI0).mono ?_; rintro e w2 ⟨rfl, hw2⟩; subst w2)
          | (go_at_call_of 22 (Value.string ⟨#[32]⟩); refine (writeS w4.heap.size w4.heap.size _ ⟨#[32]⟩ _ hI0 ?_ ?_).mono ?_; (rw [Lib.byteCells_length]; have := HVL.out; have := HSZ.out; have := HUL.out; have : (ByteArray.mk #[32]).size = 1 := rfl; omega); omega; rintro e wa ⟨rfl, hIwa, hbwa, -⟩; have HIwa := hide hIwa; have HBwa := hide ((hb.out).trans hbwa); have qwa := hbwa.size; clear hIwa hbwa; have d0 := (HBwa.out.cell (p := ⟨w1.heap.size, 0, none⟩) (by dsimp only; omega)).trans kx0; have d1 := (HBwa.out.cell (p := ⟨w1.heap.size, 1, none⟩) (by dsimp only; omega)).trans kx1; have d2 := (HBwa.out.cell (p := ⟨w1.heap.size, 2, none⟩) (by dsimp only; omega)).trans kx2; have d3 := (HBwa.out.cell (p := ⟨w1.heap.size, 3, none⟩) (by dsimp only; omega)).trans kx3; have d4 := (HBwa.out.cell (p := ⟨w1.heap.size, 4, none⟩) (by dsimp only; omega)).trans kx4; have d5 := (HBwa.out.cell (p := ⟨w1.heap.size, 5, none⟩) (by dsimp only; omega)).trans kx5; have d6 := (HBwa.out.cell (p := ⟨w1.heap.size, 6, none⟩) (by dsimp only; omega)).trans kx6; have d7 := (HBwa.out.cell (p := ⟨w1.heap.size, 7, none⟩) (by dsimp only; omega)).trans kx7; have d8 := (HBwa.out.cell (p := ⟨w1.heap.size, 8, none⟩) (by dsimp only; omega)).trans kx8; have d9 := (HBwa.out.cell (p := ⟨w1.heap.size, 9, none⟩) (by dsimp only; omega)).trans kx9; have HTW := hide (HTB.out.below HBwa.out))
          | (go_at_call_of 22 (Value.string s); refine (writeS w4.heap.size w4.heap.size _ s _ HIwa.out ?_ ?_).mono ?_; (simp only [List.length_append, Lib.byteCells_length, Lib.strCells_length]; have := HVL.out; have := HSZ.out; have := HUL.out; have : (ByteArray.mk #[32]).size = 1 := rfl; omega); omega; rintro e wb ⟨rfl, hIwb, hbwb, -⟩; have HIwb := hide hIwb; have HBwb := hide ((HBwa.out).trans hbwb); have qwb := hbwb.size; clear hIwb hbwb; have d0 := (HBwb.out.cell (p := ⟨w1.heap.size, 0, none⟩) (by dsimp only; omega)).trans kx0; have d1 := (HBwb.out.cell (p := ⟨w1.heap.size, 1, none⟩) (by dsimp only; omega)).trans kx1; have d2 := (HBwb.out.cell (p := ⟨w1.heap.size, 2, none⟩) (by dsimp only; omega)).trans kx2; have d3 := (HBwb.out.cell (p := ⟨w1.heap.size, 3, none⟩) (by dsimp only; omega)).trans kx3; have d4 := (HBwb.out.cell (p := ⟨w1.heap.size, 4, none⟩) (by dsimp only; omega)).trans kx4; have d5 := (HBwb.out.cell (p := ⟨w1.heap.size, 5, none⟩) (by dsimp only; omega)).trans kx5; have d6 := (HBwb.out.cell (p := ⟨w1.heap.size, 6, none⟩) (by dsimp only; omega)).trans kx6; have d7 := (HBwb.out.cell (p := ⟨w1.heap.size, 7, none⟩) (by dsimp only; omega)).trans kx7; have d8 := (HBwb.out.cell (p := ⟨w1.heap.size, 8, none⟩) (by dsimp only; omega)).trans kx8; have d9 := (HBwb.out.cell (p := ⟨w1.heap.size, 9, none⟩) (by dsimp only; omega)).trans kx9; have HTW := hide (HTB.out.below HBwb.out))
          | (go_at_call 23; refine (HUP.out _ HTW.out).mono ?_; rintro e wc ⟨rfl, hbc⟩; have HIwb2 := hide (isb_bel HIwb.out hbc); have HBwc := hide (HBwb.out.trans (hbc.mono (by omega))); have qwc := hbc.size; clear hbc)
          | (go_at_call_of 22 (Value.string u); refine (writeS w4.heap.size w4.heap.size _ u _ HIwb2.out ?_ ?_).mono ?_; (simp only [List.length_append, Lib.byteCells_length, Lib.strCells_length]; have := HVL.out; have := HSZ.out; have := HUL.out; have : (ByteArray.mk #[32]).size = 1 := rfl; omega); omega; rintro e wd ⟨rfl, hIwd, hbwd, -⟩; have HIwd := hide hIwd; have HBwd := hide ((HBwc.out).trans hbwd); have qwd := hbwd.size; clear hIwd hbwd; skip))
        exact ⟨⟨k + 1, by omega, by go_num, hide (by rw [HV.out]; have hh := HIwd.out; rw [bytes_app, bytes_app, bytes_app] at hh; exact hh), HBwd, by omega⟩, by simp [intOf]; omega⟩
    · obtain rfl : k = xs.length := by omega
      go_wp2_with (go_at_call 24; refine (Tryz.Builder_String_any w4.heap.size w4.heap.size (vk den xs ts xs.length) _ hI.out (Nat.le_of_lt hzz)).mono ?_; rintro e w9 ⟨rfl, hb9⟩)
      go_ret
      exact ⟨by rw [HR.out, htl]; rfl, bl_trans HB.out (hb.out.trans hb9)⟩

end Go.Proofs.YteeifaleneneeaaGreatDoor

/- The walk of the exact law of VecText. -/
namespace Go.Proofs.YteeifaleneneeaaGreatDoor
open Go.RowKit
set_option linter.unusedVariables false

theorem vecTextI (den : Int) (a : Option Addr) (cap : Nat) (xs : List Int) (b : Option Addr) (m cb : Nat) (ts : List ByteArray) (w : World) (hs : V.Seg w a xs.length cap xs) (ht : SSeg w b m cb ts) (hz : stot ts ≤ 1048576) (htab : Tabs w) :
    Calls Tryz.prog 9 #[.agg #[.int .i64 den, .slice a xs.length cap], .slice b m cb] w fun e w' => e = .returned (.string (vtxt den xs ts)) ∧ Below w.heap.size w w' := by
  cases h0 : V.vokB den xs with
  | false => exact vecText_no den a cap xs b m cb ts w hs ht hz htab h0
  | true =>
    by_cases h1 : m = xs.length
    · cases h2 : ts.all nameOkB with
      | false => exact vecText_names den a cap xs b m cb ts w hs ht hz htab h0 h1 h2
      | true =>
        cases h3 : V.eq8 (V.at8 xs) (fun _ => 0) with
        | true => exact vecText_one den a cap xs b m cb ts w hs ht hz htab h0 h1 h2 h3
        | false => exact vecText_more den a cap xs b m cb ts w hs ht hz htab h0 h1 h2 h3
    · exact vecText_len den a cap xs b m cb ts w hs ht hz htab h0 h1
theorem vecTextS (den : Int) (a : Option Addr) (cap : Nat) (xs : List Int) (b : Option Addr) (m cb : Nat) (ts : List ByteArray) (w : World) (hs : V.Seg w a xs.length cap xs) (ht : SSeg w b m cb ts) (hz : stot ts ≤ 1048576) :
    Calls Tryz.prog 6 #[.agg #[.int .i64 den, .slice a xs.length cap], .slice b m cb] w fun e w' => e = .returned (.string (vtxt den xs ts)) ∧ Below w.heap.size w w' := by
  cases h0 : V.vokB den xs with
  | false => exact vecTextS_no den a cap xs b m cb ts w hs ht hz h0
  | true =>
    by_cases h1 : m = xs.length
    · exact vecTextS_yes den a cap xs b m cb ts w hs ht hz h0 h1
    · exact vecTextS_len den a cap xs b m cb ts w hs ht hz h0 h1

set_option maxHeartbeats 4000000 in
set_option maxRecDepth 20000 in
theorem walkVt (den : Int) (a : Option Addr) (cap : Nat) (xs : List Int) (b : Option Addr) (m cb : Nat) (ts : List ByteArray) (w : World) (hs : V.Seg w a xs.length cap xs) (ht : SSeg w b m cb ts) (htab : Tabs w) :
    Calls Tryz.prog 3 #[Value.agg #[Value.int .i64 den, Value.slice a xs.length cap], .slice b m cb] w fun e w' => e = .returned (.bool true) ∧ Below w.heap.size w w' := by
  have hxl := hs.le
  have hmc := ht.2.1
  have hmc2 := ht.2.2.1
  have hmn : m ≤ 9223372036854775807 := Nat.le_trans hmc hmc2
  have hbn := bl_alloc (bl_refl w) (Obj.cells #[Value.int .i64 den, Value.slice a xs.length cap] 24)
  have HS := hide (hs.below hbn)
  have HT := hide (ht.below hbn)
  have HTB := hide (htab.below hbn)
  have HB := hide hbn
  have kv0 : (w.alloc (Obj.cells #[Value.int .i64 den, Value.slice a xs.length cap] 24)).cell? ⟨w.heap.size, 0, none⟩ = some (Value.int .i64 den) := by go_simp
  have kv1 : (w.alloc (Obj.cells #[Value.int .i64 den, Value.slice a xs.length cap] 24)).cell? ⟨w.heap.size, 1, none⟩ = some (Value.slice a xs.length cap) := by go_simp
  have zr : w.heap.size < (w.alloc (Obj.cells #[Value.int .i64 den, Value.slice a xs.length cap] 24)).heap.size := by simp only [World.size_alloc]; omega
  clear hbn hs ht htab
  go_enter Tryz.func3, Tryz.ntmps3
  go_wp2_with fail
  generalize (w.alloc (Obj.cells #[Value.int .i64 den, Value.slice a xs.length cap] 24)) = w0 at *
  refine (V.szB den a xs.length cap 1048576 _ hxl (by omega) (by omega)).mono ?_
  rintro e w1 ⟨rfl, hb⟩
  have yw1 := hb.size
  replace kv0 := (hb.cell (p := ⟨w.heap.size, 0, none⟩) (by dsimp only; omega)).trans kv0
  replace kv1 := (hb.cell (p := ⟨w.heap.size, 1, none⟩) (by dsimp only; omega)).trans kv1
  replace HS := hide (HS.out.below hb)
  replace HT := hide (HT.out.below hb)
  replace HTB := hide (HTB.out.below hb)
  replace zr := Nat.lt_of_lt_of_le zr hb.size
  replace HB := hide (bl_trans HB.out hb)
  clear hb
  by_cases hg1 : (1048576 : Int) < (xs.length : Int)
  · rw [if_pos hg1]
    go_wp2
    go_ret
    exact ⟨rfl, HB.out⟩
  rw [if_neg hg1]
  have hp1 : ¬ (1048576 : Int) - (xs.length : Int) < 0 := by omega
  have hx1 : xs.length ≤ 1048576 := by omega
  go_wp2_with fail
  refine (szSS b m cb ts (1048576 - (xs.length : Int)) _ HT.out (by omega) (by omega)).mono ?_
  rintro e w2 ⟨rfl, hb⟩
  have yw2 := hb.size
  replace kv0 := (hb.cell (p := ⟨w.heap.size, 0, none⟩) (by dsimp only; omega)).trans kv0
  replace kv1 := (hb.cell (p := ⟨w.heap.size, 1, none⟩) (by dsimp only; omega)).trans kv1
  replace HS := hide (HS.out.below hb)
  replace HT := hide (HT.out.below hb)
  replace HTB := hide (HTB.out.below hb)
  replace zr := Nat.lt_of_lt_of_le zr hb.size
  replace HB := hide (bl_trans HB.out hb)
  clear hb
  by_cases hg2 : (1048576 : Int) - (xs.length : Int) < m + stot ts
  · have e1 : szr (1048576 - (xs.length : Int)) m (stot ts) = -1 := by unfold szr; rw [if_pos hg2]
    rw [e1]
    go_wp2
    go_ret
    exact ⟨rfl, HB.out⟩
  have e1 : szr (1048576 - (xs.length : Int)) m (stot ts) = 1048576 - (xs.length : Int) - (m + stot ts) := by unfold szr; rw [if_neg hg2]
  rw [e1]
  have hp2 : ¬ (1048576 : Int) - (xs.length : Int) - (m + stot ts) < 0 := by omega
  have hz : stot ts ≤ 1048576 := by omega
  have hm1 : m ≤ 1048576 := by omega
  clear e1
  go_wp2_with fail
  refine (V.toB den a xs.length cap xs _ HS.out hx1).mono ?_
  rintro e w3 ⟨v1, rfl, ⟨a1, c1, rfl, ho1⟩, hb⟩
  have yw3 := hb.size
  replace kv0 := (hb.cell (p := ⟨w.heap.size, 0, none⟩) (by dsimp only; omega)).trans kv0
  replace kv1 := (hb.cell (p := ⟨w.heap.size, 1, none⟩) (by dsimp only; omega)).trans kv1
  replace HS := hide (HS.out.below hb)
  replace HT := hide (HT.out.below hb)
  replace HTB := hide (HTB.out.below hb)
  replace zr := Nat.lt_of_lt_of_le zr hb.size
  replace HB := hide (bl_trans HB.out hb)
  clear hb
  have S1 := hide (V.Own.seg ho1)
  clear ho1
  go_wp2_with fail
  refine (toSS b m cb ts _ HT.out hm1).mono ?_
  rintro e w4 ⟨b1, d1, rfl, st1, hb⟩
  have yw4 := hb.size
  replace kv0 := (hb.cell (p := ⟨w.heap.size, 0, none⟩) (by dsimp only; omega)).trans kv0
  replace kv1 := (hb.cell (p := ⟨w.heap.size, 1, none⟩) (by dsimp only; omega)).trans kv1
  replace HS := hide (HS.out.below hb)
  replace HT := hide (HT.out.below hb)
  replace HTB := hide (HTB.out.below hb)
  replace S1 := hide (S1.out.below hb)
  replace zr := Nat.lt_of_lt_of_le zr hb.size
  replace HB := hide (bl_trans HB.out hb)
  clear hb
  have T1 := hide st1
  clear st1
  go_wp2_with fail
  refine (vecTextS den a1 c1 xs b1 m d1 ts _ S1.out T1.out hz).mono ?_
  rintro e w5 ⟨rfl, hb⟩
  have yw5 := hb.size
  replace kv0 := (hb.cell (p := ⟨w.heap.size, 0, none⟩) (by dsimp only; omega)).trans kv0
  replace kv1 := (hb.cell (p := ⟨w.heap.size, 1, none⟩) (by dsimp only; omega)).trans kv1
  replace HS := hide (HS.out.below hb)
  replace HT := hide (HT.out.below hb)
  replace HTB := hide (HTB.out.below hb)
  replace S1 := hide (S1.out.below hb)
  replace T1 := hide (T1.out.below hb)
  replace zr := Nat.lt_of_lt_of_le zr hb.size
  replace HB := hide (bl_trans HB.out hb)
  clear hb
  go_wp2_with fail
  refine (V.toB den a xs.length cap xs _ HS.out hx1).mono ?_
  rintro e w6 ⟨v2, rfl, ⟨a2, c2, rfl, ho2⟩, hb⟩
  have yw6 := hb.size
  replace kv0 := (hb.cell (p := ⟨w.heap.size, 0, none⟩) (by dsimp only; omega)).trans kv0
  replace kv1 := (hb.cell (p := ⟨w.heap.size, 1, none⟩) (by dsimp only; omega)).trans kv1
  replace HS := hide (HS.out.below hb)
  replace HT := hide (HT.out.below hb)
  replace HTB := hide (HTB.out.below hb)
  replace S1 := hide (S1.out.below hb)
  replace T1 := hide (T1.out.below hb)
  replace zr := Nat.lt_of_lt_of_le zr hb.size
  replace HB := hide (bl_trans HB.out hb)
  clear hb
  have S2 := hide (V.Own.seg ho2)
  clear ho2
  have yw7 : w6.heap.size + 1 ≤ (w6.alloc (Obj.cells #[Value.int .i64 den, Value.slice a2 xs.length c2] 29)).heap.size := by simp only [World.size_alloc]; omega
  have kx0 : (w6.alloc (Obj.cells #[Value.int .i64 den, Value.slice a2 xs.length c2] 29)).cell? ⟨w6.heap.size, 0, none⟩ = some (Value.int .i64 den) := by go_simp
  have kx1 : (w6.alloc (Obj.cells #[Value.int .i64 den, Value.slice a2 xs.length c2] 29)).cell? ⟨w6.heap.size, 1, none⟩ = some (Value.slice a2 xs.length c2) := by go_simp
  have hbn := (bl_alloc (bl_refl w6) (Obj.cells #[Value.int .i64 den, Value.slice a2 xs.length c2] 29))
  replace kv0 := (hbn.cell (p := ⟨w.heap.size, 0, none⟩) (by dsimp only; omega)).trans kv0
  replace kv1 := (hbn.cell (p := ⟨w.heap.size, 1, none⟩) (by dsimp only; omega)).trans kv1
  replace HS := hide (HS.out.below hbn)
  replace HT := hide (HT.out.below hbn)
  replace HTB := hide (HTB.out.below hbn)
  replace S1 := hide (S1.out.below hbn)
  replace T1 := hide (T1.out.below hbn)
  replace S2 := hide (S2.out.below hbn)
  replace zr := Nat.lt_of_lt_of_le zr hbn.size
  replace HB := hide (bl_trans HB.out hbn)
  clear hbn
  go_wp2_with fail
  generalize (w6.alloc (Obj.cells #[Value.int .i64 den, Value.slice a2 xs.length c2] 29)) = w7 at *
  refine (toSS b m cb ts _ HT.out hm1).mono ?_
  rintro e w8 ⟨b2, d2, rfl, st2, hb⟩
  have yw8 := hb.size
  replace kv0 := (hb.cell (p := ⟨w.heap.size, 0, none⟩) (by dsimp only; omega)).trans kv0
  replace kv1 := (hb.cell (p := ⟨w.heap.size, 1, none⟩) (by dsimp only; omega)).trans kv1
  replace kx0 := (hb.cell (p := ⟨w6.heap.size, 0, none⟩) (by dsimp only; omega)).trans kx0
  replace kx1 := (hb.cell (p := ⟨w6.heap.size, 1, none⟩) (by dsimp only; omega)).trans kx1
  replace HS := hide (HS.out.below hb)
  replace HT := hide (HT.out.below hb)
  replace HTB := hide (HTB.out.below hb)
  replace S1 := hide (S1.out.below hb)
  replace T1 := hide (T1.out.below hb)
  replace S2 := hide (S2.out.below hb)
  replace zr := Nat.lt_of_lt_of_le zr hb.size
  replace HB := hide (bl_trans HB.out hb)
  clear hb
  have T2 := hide st2
  clear st2
  go_wp2_with fail
  refine (vecTextI den a2 c2 xs b2 m d2 ts _ S2.out T2.out hz HTB.out).mono ?_
  rintro e w9 ⟨rfl, hb⟩
  have yw9 := hb.size
  replace kv0 := (hb.cell (p := ⟨w.heap.size, 0, none⟩) (by dsimp only; omega)).trans kv0
  replace kv1 := (hb.cell (p := ⟨w.heap.size, 1, none⟩) (by dsimp only; omega)).trans kv1
  replace kx0 := (hb.cell (p := ⟨w6.heap.size, 0, none⟩) (by dsimp only; omega)).trans kx0
  replace kx1 := (hb.cell (p := ⟨w6.heap.size, 1, none⟩) (by dsimp only; omega)).trans kx1
  replace HS := hide (HS.out.below hb)
  replace HT := hide (HT.out.below hb)
  replace HTB := hide (HTB.out.below hb)
  replace S1 := hide (S1.out.below hb)
  replace T1 := hide (T1.out.below hb)
  replace S2 := hide (S2.out.below hb)
  replace T2 := hide (T2.out.below hb)
  replace zr := Nat.lt_of_lt_of_le zr hb.size
  replace HB := hide (bl_trans HB.out hb)
  clear hb
  generalize vtxt den xs ts = out at *
  go_wp2_with fail
  have KP : Hid (∀ w', Below w9.heap.size w9 w' → (w'.cell? ⟨w.heap.size, 0, none⟩ = some (Value.int .i64 den) ∧ w'.cell? ⟨w.heap.size, 1, none⟩ = some (Value.slice a xs.length cap) ∧ w'.cell? ⟨w6.heap.size, 0, none⟩ = some (Value.int .i64 den) ∧ w'.cell? ⟨w6.heap.size, 1, none⟩ = some (Value.slice a2 xs.length c2) ∧ Hid (Below w9.heap.size w9 w'))) := hide (fun w' hb => ⟨(hb.cell (p := ⟨w.heap.size, 0, none⟩) (by dsimp only; omega)).trans kv0, (hb.cell (p := ⟨w.heap.size, 1, none⟩) (by dsimp only; omega)).trans kv1, (hb.cell (p := ⟨w6.heap.size, 0, none⟩) (by dsimp only; omega)).trans kx0, (hb.cell (p := ⟨w6.heap.size, 1, none⟩) (by dsimp only; omega)).trans kx1, hide hb⟩)
  go_region_held3 (fun w' => w'.cell? ⟨w.heap.size, 0, none⟩ = some (Value.int .i64 den) ∧ w'.cell? ⟨w.heap.size, 1, none⟩ = some (Value.slice a xs.length cap) ∧ w'.cell? ⟨w6.heap.size, 0, none⟩ = some (Value.int .i64 den) ∧ w'.cell? ⟨w6.heap.size, 1, none⟩ = some (Value.slice a2 xs.length c2) ∧ Hid (Below w9.heap.size w9 w'))
    (first | exact KP.out _ (bl_refl w9).drew | exact KP.out _ bB | exact KP.out _ bA | exact KP.out _ (bl_refl w9).drew.drew)
    (first
      | (go_at_call 7; refine (V.toB den a xs.length cap xs _ (HS.out.below (Hid.out (And.right (And.right (And.right (And.right (by assumption))))))) hx1).mono ?_; rintro e wA ⟨v3, rfl, ⟨a3, c3, rfl, ho3⟩, hbA⟩; have bA : Below w9.heap.size w9 wA := bl_trans (Hid.out (And.right (And.right (And.right (And.right (by assumption)))))) hbA; have S3 := hide (V.Own.seg ho3); clear ho3 hbA)
      | (go_at_call 10; refine (V.eqB _ _ den xs _ ⟨a2, c2, rfl, S2.out.below bA⟩ ⟨a3, c3, rfl, S3.out⟩).mono ?_; rintro e wB ⟨rfl, hbB⟩; have bB : Below w9.heap.size w9 wB := bl_trans bA hbB; clear hbB))
  clear KP S3 bA
  have hb := bB
  clear bB
  have ywB := hb.size
  replace kv0 := (hb.cell (p := ⟨w.heap.size, 0, none⟩) (by dsimp only; omega)).trans kv0
  replace kv1 := (hb.cell (p := ⟨w.heap.size, 1, none⟩) (by dsimp only; omega)).trans kv1
  replace kx0 := (hb.cell (p := ⟨w6.heap.size, 0, none⟩) (by dsimp only; omega)).trans kx0
  replace kx1 := (hb.cell (p := ⟨w6.heap.size, 1, none⟩) (by dsimp only; omega)).trans kx1
  replace HS := hide (HS.out.below hb)
  replace HT := hide (HT.out.below hb)
  replace HTB := hide (HTB.out.below hb)
  replace S1 := hide (S1.out.below hb)
  replace T1 := hide (T1.out.below hb)
  replace S2 := hide (S2.out.below hb)
  replace T2 := hide (T2.out.below hb)
  replace zr := Nat.lt_of_lt_of_le zr hb.size
  replace HB := hide (bl_trans HB.out hb)
  clear hb
  go_wp2_with fail
  refine (toSS b m cb ts _ HT.out hm1).mono ?_
  rintro e w21 ⟨b3, d3, rfl, st3, hb⟩
  have yw21 := hb.size
  replace kv0 := (hb.cell (p := ⟨w.heap.size, 0, none⟩) (by dsimp only; omega)).trans kv0
  replace kv1 := (hb.cell (p := ⟨w.heap.size, 1, none⟩) (by dsimp only; omega)).trans kv1
  replace kx0 := (hb.cell (p := ⟨w6.heap.size, 0, none⟩) (by dsimp only; omega)).trans kx0
  replace kx1 := (hb.cell (p := ⟨w6.heap.size, 1, none⟩) (by dsimp only; omega)).trans kx1
  replace HS := hide (HS.out.below hb)
  replace HT := hide (HT.out.below hb)
  replace HTB := hide (HTB.out.below hb)
  replace S1 := hide (S1.out.below hb)
  replace T1 := hide (T1.out.below hb)
  replace S2 := hide (S2.out.below hb)
  replace T2 := hide (T2.out.below hb)
  replace zr := Nat.lt_of_lt_of_le zr hb.size
  replace HB := hide (bl_trans HB.out hb)
  clear hb
  have T3 := hide st3
  clear st3
  go_wp2_with fail
  refine (eqSS b2 b3 m d2 d3 ts _ T2.out T3.out).mono ?_
  rintro e w22 ⟨rfl, hb⟩
  have yw22 := hb.size
  replace kv0 := (hb.cell (p := ⟨w.heap.size, 0, none⟩) (by dsimp only; omega)).trans kv0
  replace kv1 := (hb.cell (p := ⟨w.heap.size, 1, none⟩) (by dsimp only; omega)).trans kv1
  replace kx0 := (hb.cell (p := ⟨w6.heap.size, 0, none⟩) (by dsimp only; omega)).trans kx0
  replace kx1 := (hb.cell (p := ⟨w6.heap.size, 1, none⟩) (by dsimp only; omega)).trans kx1
  replace HS := hide (HS.out.below hb)
  replace HT := hide (HT.out.below hb)
  replace HTB := hide (HTB.out.below hb)
  replace S1 := hide (S1.out.below hb)
  replace T1 := hide (T1.out.below hb)
  replace S2 := hide (S2.out.below hb)
  replace T2 := hide (T2.out.below hb)
  replace T3 := hide (T3.out.below hb)
  replace zr := Nat.lt_of_lt_of_le zr hb.size
  replace HB := hide (bl_trans HB.out hb)
  clear hb
  go_wp2
  go_ret
  exact ⟨rfl, HB.out⟩
end Go.Proofs.YteeifaleneneeaaGreatDoor
