/- l04Some once more, for up to nine values. -/
import Derived.Test.YtkfiidldappdcaaSome
import Derived.Test.YtkfiidldappdcaaMakeL
namespace Go.Proofs.Ytkfiidldappdcaa
open Go.RowKit
set_option linter.unusedVariables false

theorem makeA (a : Option Addr) (cap : Nat) (xs : List Int) (den : Int) (w : World) (hs : Seg w a xs.length cap xs) (h9 : xs.length ≤ 9) (h0 : 1 ≤ den) (hd : den ≤ 6) (hx : ∀ x ∈ xs, -100 ≤ x ∧ x ≤ 100) :
    Calls Try.prog 61 #[.slice a xs.length cap, .int .i64 den] w fun e w' => ∃ d a' c' M bb, e = .returned (.tuple #[.agg #[.int .i64 d, .slice a' M.length c'], .bool bb]) ∧ Own w' w.heap.size a' M.length c' M ∧ Below w.heap.size w w' := by
  have hb : ∀ j, -1000000000000000 ≤ at8 xs j ∧ at8 xs j ≤ 1000000000000000 := fun j => by
    by_cases h : j < xs.length
    · rw [at8_lt h]; have := hx xs[j] (List.getElem_mem _); omega
    · rw [at8_ge (by omega)]; omega
  by_cases h8 : xs.length ≤ 8
  · exact (makeS a cap xs den w hs h8 (by omega) (by omega) (fun j _ => hb j)).mono fun e w' ⟨a', c', he, ho, hb⟩ => ⟨_, a', c', _, _, he, ho, hb⟩
  · exact (makeL a cap xs den w hs (by omega) (by omega) (by omega) (by omega) (fun j _ => hb j)).mono fun e w' ⟨he, hb⟩ => ⟨0, none, 0, [], false, he, Own.nil _ _, hb⟩

set_option maxHeartbeats 2000000 in
theorem someD9 (B : Nat) (a : Option Addr) (len cap : Nat) (n : Nat) (w : World) (hc : Cur B a len cap w) (hn : n ≤ 9) :
    Calls Try.prog 71 #[.pointer (some ⟨B, 0, none⟩), .int .i64 n] w fun e w' => ∃ d a' c' xs, e = .returned (.agg #[.int .i64 d, .slice a' xs.length c']) ∧ Own w' w.heap.size a' xs.length c' xs ∧ Cur B a len cap w' ∧ Only B w w' := by
  have hB := hc.hB
  have HC0 := hide hc
  clear hc
  have kr0 : (w.alloc (Obj.cells #[Value.int .i64 0, Value.slice none 0 0] 29)).cell? ⟨w.heap.size, 0, none⟩ = some (Value.int .i64 0) := by go_simp
  have kr1 : (w.alloc (Obj.cells #[Value.int .i64 0, Value.slice none 0 0] 29)).cell? ⟨w.heap.size, 1, none⟩ = some (Value.slice none 0 0) := by go_simp
  have fr0 : (w.alloc (Obj.cells #[Value.int .i64 0, Value.slice none 0 0] 29)).frozen? ⟨w.heap.size, 0, none⟩ = false := by go_simp
  have fr1 : (w.alloc (Obj.cells #[Value.int .i64 0, Value.slice none 0 0] 29)).frozen? ⟨w.heap.size, 1, none⟩ = false := by go_simp
  have zr : w.heap.size < (w.alloc (Obj.cells #[Value.int .i64 0, Value.slice none 0 0] 29)).heap.size := by simp only [World.size_alloc]; omega
  have hb := bl_alloc (bl_refl (w.alloc (Obj.cells #[Value.int .i64 0, Value.slice none 0 0] 29))) (Obj.cells #[] 3)
  have q0 := (hb.cell (p := ⟨w.heap.size, 0, none⟩) zr).trans kr0
  have q1 := (hb.cell (p := ⟨w.heap.size, 1, none⟩) zr).trans kr1
  have p0 := (hb.frozen (p := ⟨w.heap.size, 0, none⟩) zr).trans fr0
  have p1 := (hb.frozen (p := ⟨w.heap.size, 1, none⟩) zr).trans fr1
  have HC := hide ((HC0.out.alloc (Obj.cells #[Value.int .i64 0, Value.slice none 0 0] 29)).alloc (Obj.cells #[] 3))
  have HON : Hid (Only B w ((w.alloc (Obj.cells #[Value.int .i64 0, Value.slice none 0 0] 29)).alloc (Obj.cells #[] 3))) := hide (((Only.refl B w).alloc _).alloc _)
  have HO := hide ((own_empty (w.alloc (Obj.cells #[Value.int .i64 0, Value.slice none 0 0] 29)) (h := fun _ => 0)).mono (base' := w.heap.size + 1) (by simp))
  have zz : w.heap.size + 1 ≤ ((w.alloc (Obj.cells #[Value.int .i64 0, Value.slice none 0 0] 29)).alloc (Obj.cells #[] 3)).heap.size := by simp only [World.size_alloc]; omega
  have hblk : (w.alloc (Obj.cells #[Value.int .i64 0, Value.slice none 0 0] 29)).heap.size = w.heap.size + 1 := by simp
  have HBK := hide hblk
  clear hblk hb kr0 kr1 fr0 fr1 zr HC0
  go_enter Try.func71, Try.ntmps71
  go_wp2
  generalize ((w.alloc (Obj.cells #[Value.int .i64 0, Value.slice none 0 0] 29)).alloc (Obj.cells #[] 3)) = w1 at *
  rw [HBK.out] at HO
  go_loopw [5, 6] (fun l i wr => ∃ (k : Nat) (a' : Option Addr) (c' : Nat) (xs : List Int), k ≤ n ∧ i = .int .i64 k ∧ l = .slice a' k c' ∧ w.heap.size + 1 ≤ wr.heap.size ∧ wr.cell? ⟨w.heap.size, 0, none⟩ = some (Value.int .i64 0) ∧ wr.cell? ⟨w.heap.size, 1, none⟩ = some (Value.slice none 0 0) ∧ wr.frozen? ⟨w.heap.size, 0, none⟩ = false ∧ wr.frozen? ⟨w.heap.size, 1, none⟩ = false ∧ Hid (Own wr (w.heap.size + 1) a' k c' xs) ∧ Hid (∀ x ∈ xs, -100 ≤ x ∧ x ≤ 100) ∧ Hid (Cur B a len cap wr) ∧ Hid (Only B w wr)) (fun _ i _ => n - (intOf i).toNat)
  case atStart => exact ⟨0, _, _, _, Nat.zero_le _, rfl, rfl, zz, q0, q1, p0, p1, HO, hide (fun x hx => by simp [lst8] at hx), HC, HON⟩
  case round =>
    clear q0 q1 p0 p1 HC HON HO zz
    obtain ⟨k, a', c', xs, hk, rfl, rfl, zz, q0, q1, p0, p1, HO, HX, HC, HON⟩ := hrel
    have nB : w.heap.size ≠ B := by omega
    by_cases hlt : k < n
    · have hlt' : (k : Int) < (n : Int) := by omega
      go_wp2_with fail
      refine (belowD B a len cap _ HC.out 13 (by omega)).mono ?_
      rintro e w2 ⟨x, hx, rfl, hc2, ho2⟩
      have hx' : 0 ≤ x ∧ x < 13 := by rcases hx with h | h <;> omega
      obtain ⟨hx1, hx2⟩ := hx'
      replace q0 := (ho2.cell (p := ⟨w.heap.size, 0, none⟩) (by dsimp only; omega) nB).trans q0
      replace q1 := (ho2.cell (p := ⟨w.heap.size, 1, none⟩) (by dsimp only; omega) nB).trans q1
      replace p0 := (ho2.frozen (p := ⟨w.heap.size, 0, none⟩) (by dsimp only; omega) nB).trans p0
      replace p1 := (ho2.frozen (p := ⟨w.heap.size, 1, none⟩) (by dsimp only; omega) nB).trans p1
      replace zz := Nat.le_trans zz ho2.size
      replace HO := hide (HO.out.only ho2 (by omega))
      replace HON := hide (HON.out.trans ho2)
      replace HC := hide hc2
      clear hx hc2 ho2
      go_wp2_with fail
      have hb := bl_alloc (bl_refl w2) (Obj.cells #[Value.int .i64 0, Value.int .i64 0, Value.int .i64 1, Value.int .i64 (-1), Value.int .i64 2, Value.int .i64 (-2), Value.int .i64 3, Value.int .i64 (x - 6)] 3)
      have HCA := hide (HC.out.alloc (Obj.cells #[Value.int .i64 0, Value.int .i64 0, Value.int .i64 1, Value.int .i64 (-1), Value.int .i64 2, Value.int .i64 (-2), Value.int .i64 3, Value.int .i64 (x - 6)] 3))
      have HPK := hide (new_ints w2 #[Value.int .i64 0, Value.int .i64 0, Value.int .i64 1, Value.int .i64 (-1), Value.int .i64 2, Value.int .i64 (-2), Value.int .i64 3, Value.int .i64 (x - 6)] 3 (fun z => -100 ≤ z ∧ z ≤ 100) (by
        intro v hv
        simp only [List.mem_cons, List.not_mem_nil, or_false] at hv
        rcases hv with rfl | rfl | rfl | rfl | rfl | rfl | rfl | rfl
        all_goals exact ⟨_, by omega, rfl⟩) 8 (by simp))
      replace q0 := (hb.cell (p := ⟨w.heap.size, 0, none⟩) (by dsimp only; omega)).trans q0
      replace q1 := (hb.cell (p := ⟨w.heap.size, 1, none⟩) (by dsimp only; omega)).trans q1
      replace p0 := (hb.frozen (p := ⟨w.heap.size, 0, none⟩) (by dsimp only; omega)).trans p0
      replace p1 := (hb.frozen (p := ⟨w.heap.size, 1, none⟩) (by dsimp only; omega)).trans p1
      have zL : w2.heap.size < (w2.alloc (Obj.cells #[Value.int .i64 0, Value.int .i64 0, Value.int .i64 1, Value.int .i64 (-1), Value.int .i64 2, Value.int .i64 (-2), Value.int .i64 3, Value.int .i64 (x - 6)] 3)).heap.size := by simp only [World.size_alloc]; omega
      replace HO := hide (HO.out.below hb)
      replace HON := hide (HON.out.bel hb)
      have z2 := zz
      have hB2 := HC.out.hB
      clear hb HC
      generalize w2.alloc (Obj.cells #[Value.int .i64 0, Value.int .i64 0, Value.int .i64 1, Value.int .i64 (-1), Value.int .i64 2, Value.int .i64 (-2), Value.int .i64 3, Value.int .i64 (x - 6)] 3) = w3 at *
      refine (pickIntD B a len cap _ HCA.out w2.heap.size 8 (fun z => -100 ≤ z ∧ z ≤ 100) zL (by omega) (by omega) (by omega) HPK.out).mono ?_
      rintro e w4 ⟨y, hy, rfl, hc4, ho4⟩
      replace q0 := (ho4.cell (p := ⟨w.heap.size, 0, none⟩) (by dsimp only; omega) nB).trans q0
      replace q1 := (ho4.cell (p := ⟨w.heap.size, 1, none⟩) (by dsimp only; omega) nB).trans q1
      replace p0 := (ho4.frozen (p := ⟨w.heap.size, 0, none⟩) (by dsimp only; omega) nB).trans p0
      replace p1 := (ho4.frozen (p := ⟨w.heap.size, 1, none⟩) (by dsimp only; omega) nB).trans p1
      replace zz : w.heap.size + 1 ≤ w4.heap.size := by have := ho4.size; omega
      replace HO := hide (HO.out.only ho4 (by omega))
      replace HON := hide (HON.out.trans ho4)
      have HC := hide hc4
      have HY := hide hy
      clear hc4 ho4 hy HCA HPK zL
      have hbn := bl_alloc (bl_refl w4) (Obj.cells #[Value.int .i64 y] 3)
      have hnc : (w4.alloc (Obj.cells #[Value.int .i64 y] 3)).cell? ⟨w4.heap.size, 0, none⟩ = some (Value.int .i64 y) := by go_simp
      have HSE := hide (seg_one hnc)
      have HOW := hide (HO.out.below hbn)
      have hne : ∀ g, (Value.slice a' k c').ownBlock = some g → w.heap.size + 1 ≤ g ∧ g < w4.heap.size := fun g e => World.ownsRow.lt HO.out g e
      have HKP : Hid (∀ w5, (w4.alloc (Obj.cells #[Value.int .i64 y] 3)).grownBy w5 (Value.slice a' k c').ownBlock → (w.heap.size + 1 ≤ w5.heap.size ∧ w5.cell? ⟨w.heap.size, 0, none⟩ = some (Value.int .i64 0) ∧ w5.cell? ⟨w.heap.size, 1, none⟩ = some (Value.slice none 0 0) ∧ w5.frozen? ⟨w.heap.size, 0, none⟩ = false ∧ w5.frozen? ⟨w.heap.size, 1, none⟩ = false ∧ Hid (Cur B a len cap w5) ∧ Hid (Only B w w5))) := hide (fun w5 hg5 => by
        have hsz := hbn.size
        have n1 : some w.heap.size ≠ (Value.slice a' k c').ownBlock := fun e => by have := hne _ e.symm; omega
        refine ⟨by have := hg5.size; omega, ?_, ?_, ?_, ?_, hide ?_, hide ?_⟩
        · exact (hg5.cell_far ⟨w.heap.size, 0, none⟩ (by dsimp only; omega) n1).trans ((hbn.cell (p := ⟨w.heap.size, 0, none⟩) (by dsimp only; omega)).trans q0)
        · exact (hg5.cell_far ⟨w.heap.size, 1, none⟩ (by dsimp only; omega) n1).trans ((hbn.cell (p := ⟨w.heap.size, 1, none⟩) (by dsimp only; omega)).trans q1)
        · exact (hg5.frozen_far ⟨w.heap.size, 0, none⟩ (by dsimp only; omega) n1).trans ((hbn.frozen (p := ⟨w.heap.size, 0, none⟩) (by dsimp only; omega)).trans p0)
        · exact (hg5.frozen_far ⟨w.heap.size, 1, none⟩ (by dsimp only; omega) n1).trans ((hbn.frozen (p := ⟨w.heap.size, 1, none⟩) (by dsimp only; omega)).trans p1)
        · exact (HC.out.alloc (Obj.cells #[Value.int .i64 y] 3)).kept (below_of_grown hg5 (fun q e => by have := hne q e; omega) (by omega))
        · exact (HON.out.bel hbn).grow hg5 (fun q e => by have := hne q e; omega))
      clear hne hnc hbn
      go_wp2_with (at_builtin; refine wp_app rfl _ _ rfl (w.heap.size + 1) a' k c' xs rfl HOW.out ⟨w4.heap.size, 0, none⟩ 1 1 [y] rfl HSE.out (by omega) (by simp; omega) ?_; intro a5 c5 w5 ho5 hg5; obtain ⟨t0, t1, t2, t3, t4, t5, t6⟩ := HKP.out w5 hg5; have HO5 := hide ho5; clear ho5 hg5)
      exact ⟨⟨k + 1, a5, c5, xs ++ [y], by omega, by go_num, rfl, t0, t1, t2, t3, t4, HO5, hide (fun z hz => by rcases List.mem_append.1 hz with h | h; exact HX.out z h; rw [List.mem_singleton.1 h]; exact HY.out), t5, t6⟩, by simp [intOf]; omega⟩
    · obtain rfl : k = n := by omega
      have hlt' : ¬ (k : Int) < (k : Int) := by omega
      clear hlt hk
      go_wp2_with fail
      have hb := bl_alloc (bl_refl wr) (Obj.cells #[Value.int .i64 1, Value.int .i64 1, Value.int .i64 1, Value.int .i64 2, Value.int .i64 3, Value.int .i64 4, Value.int .i64 6] 3)
      have HCA := hide (HC.out.alloc (Obj.cells #[Value.int .i64 1, Value.int .i64 1, Value.int .i64 1, Value.int .i64 2, Value.int .i64 3, Value.int .i64 4, Value.int .i64 6] 3))
      have HPK := hide (new_ints wr #[Value.int .i64 1, Value.int .i64 1, Value.int .i64 1, Value.int .i64 2, Value.int .i64 3, Value.int .i64 4, Value.int .i64 6] 3 (fun z => 1 ≤ z ∧ z ≤ 6) (by
        intro v hv
        simp only [List.mem_cons, List.not_mem_nil, or_false] at hv
        rcases hv with rfl | rfl | rfl | rfl | rfl | rfl | rfl
        all_goals exact ⟨_, by omega, rfl⟩) 7 (by simp))
      replace q0 := (hb.cell (p := ⟨w.heap.size, 0, none⟩) (by dsimp only; omega)).trans q0
      replace q1 := (hb.cell (p := ⟨w.heap.size, 1, none⟩) (by dsimp only; omega)).trans q1
      replace p0 := (hb.frozen (p := ⟨w.heap.size, 0, none⟩) (by dsimp only; omega)).trans p0
      replace p1 := (hb.frozen (p := ⟨w.heap.size, 1, none⟩) (by dsimp only; omega)).trans p1
      have zL : wr.heap.size < (wr.alloc (Obj.cells #[Value.int .i64 1, Value.int .i64 1, Value.int .i64 1, Value.int .i64 2, Value.int .i64 3, Value.int .i64 4, Value.int .i64 6] 3)).heap.size := by simp only [World.size_alloc]; omega
      have hBr := HC.out.hB
      replace HO := hide (HO.out.below hb)
      replace HON := hide (HON.out.bel hb)
      clear hb HC
      generalize wr.alloc (Obj.cells #[Value.int .i64 1, Value.int .i64 1, Value.int .i64 1, Value.int .i64 2, Value.int .i64 3, Value.int .i64 4, Value.int .i64 6] 3) = w3 at *
      refine (pickIntD B a len cap _ HCA.out wr.heap.size 7 (fun z => 1 ≤ z ∧ z ≤ 6) zL (by omega) (by omega) (by omega) HPK.out).mono ?_
      rintro e w4 ⟨y, hy, rfl, hc4, ho4⟩
      replace q0 := (ho4.cell (p := ⟨w.heap.size, 0, none⟩) (by dsimp only; omega) nB).trans q0
      replace q1 := (ho4.cell (p := ⟨w.heap.size, 1, none⟩) (by dsimp only; omega) nB).trans q1
      replace p0 := (ho4.frozen (p := ⟨w.heap.size, 0, none⟩) (by dsimp only; omega) nB).trans p0
      replace p1 := (ho4.frozen (p := ⟨w.heap.size, 1, none⟩) (by dsimp only; omega) nB).trans p1
      replace zz : w.heap.size + 1 ≤ w4.heap.size := by have := ho4.size; omega
      replace HO := hide (HO.out.only ho4 (by omega))
      replace HON := hide (HON.out.trans ho4)
      have HC := hide hc4
      obtain ⟨hy1, hy2⟩ := hy
      clear hc4 ho4 HCA HPK zL
      obtain rfl : xs.length = k := HO.out.len
      have HMK := hide (fun w h => makeA a' c' xs y w h hn (by omega) (by omega) HX.out)
      go_wp2_with fail
      refine (HMK.out _ HO.out.seg).mono ?_
      rintro e w5 ⟨D, a5, c5, M, bb, rfl, ho5, hb⟩
      replace q0 := (hb.cell (p := ⟨w.heap.size, 0, none⟩) (by dsimp only; omega)).trans q0
      replace q1 := (hb.cell (p := ⟨w.heap.size, 1, none⟩) (by dsimp only; omega)).trans q1
      replace p0 := (hb.frozen (p := ⟨w.heap.size, 0, none⟩) (by dsimp only; omega)).trans p0
      replace p1 := (hb.frozen (p := ⟨w.heap.size, 1, none⟩) (by dsimp only; omega)).trans p1
      have HO5 := hide (ho5.mono (base' := w.heap.size + 1) (by omega))
      replace HON := hide (HON.out.bel hb)
      replace HC := hide (HC.out.kept (hb.mono (by have := HC.out.hB; omega)))
      have hs5 := hb.size
      clear ho5 hb HMK HO HX
      have n1 : ¬ w.heap.size = w5.heap.size := by omega
      have hb := bl_alloc (bl_refl w5) (Obj.cells #[Value.int .i64 D, Value.slice a5 M.length c5] 29)
      have r0 := (hb.cell (p := ⟨w.heap.size, 0, none⟩) (by dsimp only; omega)).trans q0
      have r1 := (hb.cell (p := ⟨w.heap.size, 1, none⟩) (by dsimp only; omega)).trans q1
      have s0 := (hb.frozen (p := ⟨w.heap.size, 0, none⟩) (by dsimp only; omega)).trans p0
      have s1 := (hb.frozen (p := ⟨w.heap.size, 1, none⟩) (by dsimp only; omega)).trans p1
      replace HO5 := hide (HO5.out.below hb)
      replace HC := hide (HC.out.alloc (Obj.cells #[Value.int .i64 D, Value.slice a5 M.length c5] 29))
      replace HON := hide (HON.out.bel hb)
      clear hb q0 q1 p0 p1
      go_wp2
      refine bodyPost_ret (v := .agg #[.int .i64 D, .slice a5 M.length c5]) (by simp [results, Try.results71, go_sem, r0, r1]) rfl ⟨D, a5, c5, M, rfl, ?_, ?_, ?_⟩
      · exact ((HO5.out.setCell (p := ⟨w.heap.size, 0, none⟩) (Nat.lt_succ_self _) _).setCell (p := ⟨w.heap.size, 1, none⟩) (Nat.lt_succ_self _) _).mono (Nat.le_succ _)
      · exact HC.out.kept (((Below.refl _ _).setCell (p := ⟨w.heap.size, 0, none⟩) (by dsimp only; omega) _).setCell (p := ⟨w.heap.size, 1, none⟩) (by dsimp only; omega) _)
      · exact (HON.out.grow (grown_set _ ⟨w.heap.size, 0, none⟩ _) (fun q e => by cases e; exact Nat.le_refl _)).grow (grown_set _ ⟨w.heap.size, 1, none⟩ _) (fun q e => by cases e; exact Nat.le_refl _)
end Go.Proofs.Ytkfiidldappdcaa
