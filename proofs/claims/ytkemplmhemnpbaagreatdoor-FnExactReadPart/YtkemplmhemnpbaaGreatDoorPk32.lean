/- My texts ExS, ExW, TeS, DcN, DcY, DcP, DcS, ReS, RdM, RrZ, RrT, in this order. -/
import Derived.Test.YtkemplmhemnpbaaGreatDoorRnS
import Derived.Test.YtkemplmhemnpbaaGreatDoorPk29
import Derived.Test.YtkemplmhemnpbaaGreatDoorPk27
import Derived.Test.YtkemplmhemnpbaaGreatDoorPk16
/- The walk of l03Exp: what stands behind an e. -/
namespace Go.Proofs.YtkemplmhemnpbaaGreatDoor
open Go.RowKit
set_option linter.unusedVariables false

theorem neg_iff (s : ByteArray) (h : 0 < s.size) : rdNeg s = decide (s[0].toNat = 45) := by
  have hl : 0 < s.data.toList.length := by rw [bsize]; exact h
  have e : s.data.toList = s[0] :: s.data.toList.drop 1 := by
    have := List.drop_eq_getElem_cons (l := s.data.toList) (i := 0) hl
    rw [List.drop_zero] at this; exact this
  unfold rdNeg Lib.hasPrefix
  rw [e]
  simp only [List.isPrefixOf]
  rw [Bool.and_true, Bool.eq_iff_iff]
  simp only [beq_iff_eq, decide_eq_true_eq]
  constructor
  · intro h; rw [← h]; rfl
  · intro h; exact UInt8.toNat_inj.1 (by rw [h]; rfl)
theorem cut_pos {s : ByteArray} (h : rdNeg s = true) : rdD s = s.extract 1 s.size := by
  have hc := rd_cut s
  rw [if_pos h] at hc
  refine ByteArray.ext (Array.ext' ?_)
  have e : (s.extract 1 s.size).data.toList = s.data.toList.drop 1 := by
    rw [ByteArray.data_extract, Array.toList_extract]
    rw [List.extract_eq_take_drop]
    rw [List.take_of_length_le (by rw [List.length_drop, bsize]; omega)]
  rw [e, hc]; rfl
theorem cut_neg {s : ByteArray} (h : rdNeg s = false) : rdD s = s := by
  have hc := rd_cut s
  rw [if_neg (by rw [h]; simp)] at hc
  exact ByteArray.ext (Array.ext' hc.symm)
theorem run_all {d : ByteArray} : runN d 0 < d.size ↔ digAll d.data.toList = false := by
  unfold runN
  rw [List.drop_zero, Nat.zero_add]
  obtain ⟨a, r, he, ha, hr⟩ := parts d.data.toList
  have hl : d.size = a.length + r.length := by rw [← bsize, he, List.length_append]
  rcases hr with rfl | ⟨c, t, rfl, hc⟩
  · rw [List.append_nil] at he
    rw [he, (take_all ha).1, ha, hl]; simp
  · rw [he, (take_to ha hc t).1, hl]
    have : digAll (a ++ c :: t) = false := digAll_no (c := c) (by simp) hc
    rw [this]; simp
end Go.Proofs.YtkemplmhemnpbaaGreatDoor

/- The walk of l03Exp: what stands behind an e, as the program's own reading says it. -/
namespace Go.Proofs.YtkemplmhemnpbaaGreatDoor
open Go.RowKit
set_option linter.unusedVariables false

theorem exp_at {s D : ByteArray} {ng : Bool} (hD : rdD s = D) (hg : rdNeg s = ng) :
    expV s.data.toList = if (digAll D.data.toList && decide (1 ≤ D.size ∧ D.size ≤ 3)) = true then some (if ng then -(valN D.data.toList : Int) else (valN D.data.toList : Int)) else none := by
  have e : Lib.trimPrefix s.data.toList [45] = D.data.toList := by rw [← hD]; rfl
  have e2 : Lib.hasPrefix s.data.toList [45] = ng := hg
  unfold expV
  rw [e, e2]
  have hc : (digL D.data.toList && decide (D.data.toList.length ≤ 3)) = (digAll D.data.toList && decide (1 ≤ D.size ∧ D.size ≤ 3)) := by
    unfold digL
    rw [bsize, Bool.and_assoc]
    congr 1
    rw [Bool.eq_iff_iff, Bool.and_eq_true, decide_eq_true_eq, decide_eq_true_eq, decide_eq_true_eq, ← bsize]
    constructor
    · rintro ⟨h1, h2⟩
      exact ⟨by have := List.length_pos_iff.2 h1; omega, h2⟩
    · rintro ⟨h1, h2⟩
      exact ⟨fun h => by rw [h] at h1; simp at h1, h2⟩
  rw [hc]
/-- three shapes of a text: with a sign, without one, empty -/
theorem sh_three (s : ByteArray) : (rdNeg s = true ∧ (0 : Int) < s.size ∧ (∃ h : 0 < s.size, (s[0].toNat : Int) = 45) ∧ s.extract 1 s.size = rdD s ∧ (rdD s).size + 1 = s.size) ∨ (rdNeg s = false ∧ (0 : Int) < s.size ∧ (∃ h : 0 < s.size, ((s[0].toNat : Int) == 45) = false) ∧ rdD s = s) ∨ (rdNeg s = false ∧ ¬ (0 : Int) < s.size ∧ rdD s = s ∧ s.size = 0) := by
  by_cases hp : 0 < s.size
  · have hni := neg_iff s hp
    cases hg : rdNeg s with
    | true =>
      rw [hg] at hni
      refine .inl ⟨rfl, by omega, ⟨hp, by have := of_decide_eq_true hni.symm; omega⟩, (cut_pos hg).symm, ?_⟩
      rw [cut_pos hg, ByteArray.size_extract]; omega
    | false =>
      rw [hg] at hni
      exact .inr (.inl ⟨rfl, by omega, ⟨hp, by have := of_decide_eq_false hni.symm; rw [beq_eq_false_iff_ne]; omega⟩, cut_neg hg⟩)
  · have hg : rdNeg s = false := by
      have : s.data.toList = [] := by rw [← List.length_eq_zero_iff, bsize]; omega
      unfold rdNeg; rw [this]; rfl
    exact .inr (.inr ⟨hg, by omega, cut_neg hg, by omega⟩)
theorem val_small {D : ByteArray} (h : digAll D.data.toList = true) (hs : D.size ≤ 3) (k : Nat) (hk : k ≤ D.size) : valN (D.data.toList.take k) < 10 ^ k := by
  have := valN_lt _ (dig_take h k)
  rw [List.length_take, bsize, Nat.min_eq_left hk] at this
  exact this
set_option maxHeartbeats 4000000 in
set_option maxRecDepth 20000 in
theorem expN (s D : ByteArray) (w : World) (o : Option Int) (hs : s.size ≤ 400) (h0 : (0 : Int) < s.size) (h1 : 0 < s.size) (h45 : (s[0].toNat : Int) = 45) (hx : s.extract 1 s.size = D) (hz : D.size + 1 = s.size) (ho : o = if (digAll D.data.toList && decide (1 ≤ D.size ∧ D.size ≤ 3)) = true then some (if true then -(valN D.data.toList : Int) else (valN D.data.toList : Int)) else none) :
    Calls Tryz.prog 104 #[.string s] w fun e w' => e = .returned (.tuple #[.int .i64 (o.getD 0), .bool o.isSome]) ∧ w' = w := by
  have HO := hide ho
  clear ho
  have hD : D.size ≤ 400 := by omega
  go_enter Tryz.func104, Tryz.ntmps104
  go_wp2_with fail
  refine (inRd D.size 1 3 _).mono ?_
  rintro e w1 ⟨rfl, hw⟩
  subst w1
  by_cases h3 : (1 : Int) ≤ (D.size : Int) ∧ (D.size : Int) ≤ 3
  · rw [decide_eq_true h3]
    go_wp2_with fail
    refine (runS D 0 _ (Nat.zero_le _) hD).mono ?_
    rintro e w1 ⟨rfl, hw⟩
    subst w1
    cases hda : digAll D.data.toList with
    | false =>
      have hr : ((runN D 0 : Nat) : Int) < (D.size : Int) := by have := run_all.2 hda; omega
      have HN : Hid (o = none) := hide (by rw [HO.out, hda]; rfl)
      go_wp2
      go_ret2
      rw [HN.out]
      exact ⟨rfl, rfl⟩
    | true =>
      have hr : ¬ ((runN D 0 : Nat) : Int) < (D.size : Int) := by intro h; have := (run_all (d := D)).1 (by omega); rw [hda] at this; cases this
      have HY : Hid (o = some (if true then -(valN D.data.toList : Int) else (valN D.data.toList : Int))) := hide (by rw [HO.out, hda, decide_eq_true (show 1 ≤ D.size ∧ D.size ≤ 3 by omega)]; rfl)
      have HDA := hide hda
      clear hda
      generalize ((runN D 0 : Nat) : Int) = RN at *
      go_wp2
      go_loopw [5, 6] (fun n i wr => ∃ k : Nat, k ≤ D.size ∧ i = .int .i64 k ∧ n = .int .i64 (valN (D.data.toList.take k)) ∧ wr = w) (fun n i _ => D.size - (intOf i).toNat)
      case atStart => exact ⟨0, Nat.zero_le _, rfl, rfl, rfl⟩
      case round =>
        obtain ⟨k, hk, rfl, rfl, rfl⟩ := hrel
        by_cases hlt : k < D.size
        · skip
          have hlt' : (k : Int) < (D.size : Int) := by omega
          obtain ⟨hd1, hd2⟩ := dig_here' HDA.out k hlt
          have HV := hide (valN_take' D k hlt)
          have hv := val_small HDA.out (by omega) k hk
          have hv2 : (10 : Nat) ^ k ≤ 10 ^ 2 := Nat.pow_le_pow_right (by decide) (by omega)
          generalize hq : valN (D.data.toList.take k) = q at *
          have hq2 : q < 100 := by omega
          clear hv hv2 hq
          have hk0 : (0 : Int) ≤ (k : Int) := by omega
          go_wp2
          exact ⟨⟨k + 1, by omega, by go_num, by rw [HV.out]; go_num, by first | rfl | trivial⟩, by simp [intOf]; omega⟩
        · skip
          have hlt' : ¬ (k : Int) < (D.size : Int) := by omega
          have HK : Hid (D.data.toList.take k = D.data.toList) := hide (List.take_of_length_le (by rw [bsize]; omega))
          rw [HK.out]
          have hv := valN_lt D.data.toList HDA.out
          rw [bsize] at hv
          have hv2 : (10 : Nat) ^ D.size ≤ 10 ^ 3 := Nat.pow_le_pow_right (by decide) (by omega)
          generalize valN D.data.toList = q at *
          have hq3 : (q : Int) < 1000 := by omega
          clear hv hv2
          have hsz : (D.size : Int) < (s.size : Int) := by omega
          go_wp2
          go_ret2
          rw [HY.out]
          exact ⟨rfl, rfl⟩
  · rw [decide_eq_false h3]
    have HN : Hid (o = none) := hide (by rw [HO.out, decide_eq_false (show ¬ (1 ≤ D.size ∧ D.size ≤ 3) by omega), Bool.and_false]; rfl)
    go_wp2
    go_ret2
    rw [HN.out]
    exact ⟨rfl, rfl⟩

set_option maxHeartbeats 4000000 in
set_option maxRecDepth 20000 in
theorem expP (s D : ByteArray) (w : World) (o : Option Int) (hs : s.size ≤ 400) (h0 : (0 : Int) < s.size) (h1 : 0 < s.size) (h45 : ((s[0].toNat : Int) == 45) = false) (hx : s = D) (ho : o = if (digAll D.data.toList && decide (1 ≤ D.size ∧ D.size ≤ 3)) = true then some (if false then -(valN D.data.toList : Int) else (valN D.data.toList : Int)) else none) :
    Calls Tryz.prog 104 #[.string s] w fun e w' => e = .returned (.tuple #[.int .i64 (o.getD 0), .bool o.isSome]) ∧ w' = w := by
  have HO := hide ho
  clear ho
  subst hx
  have hD : s.size ≤ 400 := by omega
  go_enter Tryz.func104, Tryz.ntmps104
  go_wp2_with fail
  refine (inRd s.size 1 3 _).mono ?_
  rintro e w1 ⟨rfl, hw⟩
  subst w1
  by_cases h3 : (1 : Int) ≤ (s.size : Int) ∧ (s.size : Int) ≤ 3
  · rw [decide_eq_true h3]
    go_wp2_with fail
    refine (runS s 0 _ (Nat.zero_le _) hD).mono ?_
    rintro e w1 ⟨rfl, hw⟩
    subst w1
    cases hda : digAll s.data.toList with
    | false =>
      have hr : ((runN s 0 : Nat) : Int) < (s.size : Int) := by have := run_all.2 hda; omega
      have HN : Hid (o = none) := hide (by rw [HO.out, hda]; rfl)
      go_wp2
      go_ret2
      rw [HN.out]
      exact ⟨rfl, rfl⟩
    | true =>
      have hr : ¬ ((runN s 0 : Nat) : Int) < (s.size : Int) := by intro h; have := (run_all (d := s)).1 (by omega); rw [hda] at this; cases this
      have HY : Hid (o = some (if false then -(valN s.data.toList : Int) else (valN s.data.toList : Int))) := hide (by rw [HO.out, hda, decide_eq_true (show 1 ≤ s.size ∧ s.size ≤ 3 by omega)]; rfl)
      have HDA := hide hda
      clear hda
      generalize ((runN s 0 : Nat) : Int) = RN at *
      go_wp2
      go_loopw [5, 6] (fun n i wr => ∃ k : Nat, k ≤ s.size ∧ i = .int .i64 k ∧ n = .int .i64 (valN (s.data.toList.take k)) ∧ wr = w) (fun n i _ => s.size - (intOf i).toNat)
      case atStart => exact ⟨0, Nat.zero_le _, rfl, rfl, rfl⟩
      case round =>
        obtain ⟨k, hk, rfl, rfl, rfl⟩ := hrel
        by_cases hlt : k < s.size
        · skip
          have hlt' : (k : Int) < (s.size : Int) := by omega
          obtain ⟨hd1, hd2⟩ := dig_here' HDA.out k hlt
          have HV := hide (valN_take' s k hlt)
          have hv := val_small HDA.out (by omega) k hk
          have hv2 : (10 : Nat) ^ k ≤ 10 ^ 2 := Nat.pow_le_pow_right (by decide) (by omega)
          generalize hq : valN (s.data.toList.take k) = q at *
          have hq2 : q < 100 := by omega
          clear hv hv2 hq
          have hk0 : (0 : Int) ≤ (k : Int) := by omega
          go_wp2
          exact ⟨⟨k + 1, by omega, by go_num, by rw [HV.out]; go_num, by first | rfl | trivial⟩, by simp [intOf]; omega⟩
        · skip
          have hlt' : ¬ (k : Int) < (s.size : Int) := by omega
          have HK : Hid (s.data.toList.take k = s.data.toList) := hide (List.take_of_length_le (by rw [bsize]; omega))
          rw [HK.out]
          have hv := valN_lt s.data.toList HDA.out
          rw [bsize] at hv
          have hv2 : (10 : Nat) ^ s.size ≤ 10 ^ 3 := Nat.pow_le_pow_right (by decide) (by omega)
          generalize valN s.data.toList = q at *
          have hq3 : (q : Int) < 1000 := by omega
          clear hv hv2
          have hsz : ¬ (s.size : Int) < (s.size : Int) := by omega
          go_wp2
          go_ret2
          rw [HY.out]
          exact ⟨rfl, rfl⟩
  · rw [decide_eq_false h3]
    have HN : Hid (o = none) := hide (by rw [HO.out, decide_eq_false (show ¬ (1 ≤ s.size ∧ s.size ≤ 3) by omega), Bool.and_false]; rfl)
    go_wp2
    go_ret2
    rw [HN.out]
    exact ⟨rfl, rfl⟩

set_option maxHeartbeats 4000000 in
set_option maxRecDepth 20000 in
theorem expZ (s D : ByteArray) (w : World) (o : Option Int) (hs : s.size ≤ 400) (h0 : ¬ (0 : Int) < s.size) (hx : s = D) (ho : o = if (digAll D.data.toList && decide (1 ≤ D.size ∧ D.size ≤ 3)) = true then some (if false then -(valN D.data.toList : Int) else (valN D.data.toList : Int)) else none) :
    Calls Tryz.prog 104 #[.string s] w fun e w' => e = .returned (.tuple #[.int .i64 (o.getD 0), .bool o.isSome]) ∧ w' = w := by
  have HO := hide ho
  clear ho
  subst hx
  have hD : s.size ≤ 400 := by omega
  go_enter Tryz.func104, Tryz.ntmps104
  go_wp2_with fail
  refine (inRd s.size 1 3 _).mono ?_
  rintro e w1 ⟨rfl, hw⟩
  subst w1
  have h3 : ¬ ((1 : Int) ≤ (s.size : Int) ∧ (s.size : Int) ≤ 3) := by omega
  rw [decide_eq_false h3]
  have HN : Hid (o = none) := hide (by rw [HO.out, decide_eq_false (show ¬ (1 ≤ s.size ∧ s.size ≤ 3) by omega), Bool.and_false]; rfl)
  go_wp2
  go_ret2
  rw [HN.out]
  exact ⟨rfl, rfl⟩

theorem expS (s : ByteArray) (w : World) (hs : s.size ≤ 400) :
    Calls Tryz.prog 104 #[.string s] w fun e w' => e = .returned (.tuple #[.int .i64 ((expV s.data.toList).getD 0), .bool (expV s.data.toList).isSome]) ∧ w' = w := by
  rcases sh_three s with ⟨hg, h0, ⟨h1, h45⟩, hx, hz⟩ | ⟨hg, h0, ⟨h1, h45⟩, hx⟩ | ⟨hg, h0, hx, hz⟩
  · exact expN s (rdD s) w _ hs h0 h1 h45 hx hz (exp_at rfl hg)
  · exact expP s (rdD s) w _ hs h0 h1 h45 hx.symm (exp_at rfl hg)
  · exact expZ s (rdD s) w _ hs h0 hx.symm (exp_at rfl hg)
end Go.Proofs.YtkemplmhemnpbaaGreatDoor

/- The walk of l03Ten: a power of ten, in new memory. -/
namespace Go.Proofs.YtkemplmhemnpbaaGreatDoor
open Go.RowKit
set_option linter.unusedVariables false

/-- the answer's box, and a box X of a number -/
structure BxSt (w W : World) (X : Nat) (q : Int) (av : Option Addr) (cv : Nat) : Prop where
  k0 : W.cell? ⟨w.heap.size, 0, none⟩ = some (.bool false)
  k1 : W.cell? ⟨w.heap.size, 1, none⟩ = some (.slice none 0 0)
  f0 : W.frozen? ⟨w.heap.size, 0, none⟩ = false
  f1 : W.frozen? ⟨w.heap.size, 1, none⟩ = false
  x0 : W.cell? ⟨X, 0, none⟩ = some (.bool (sgn q))
  x1 : W.cell? ⟨X, 1, none⟩ = some (.slice av (lms q).length cv)
  g0 : W.frozen? ⟨X, 0, none⟩ = false
  g1 : W.frozen? ⟨X, 1, none⟩ = false
  zw : w.heap.size < X
  zX : X < W.heap.size
  own : Own W (w.heap.size + 1) av (lms q).length cv (lms q)
  bel : Below w.heap.size w W
theorem BxSt.store {w W W' : World} {X : Nat} {q r : Int} {av : Option Addr} {cv : Nat} {ar : Option Addr} {cr : Nat} (h : BxSt w W X q av cv) (hb : Below W.heap.size W W') (hN : Own W' W.heap.size ar (lms r).length cr (lms r)) :
    BxSt w ((W'.setCell ⟨X, 0, none⟩ (.bool (sgn r))).setCell ⟨X, 1, none⟩ (.slice ar (lms r).length cr)) X r ar cr := by
  have hz := h.zX
  have hw := h.zw
  have hbs := hb.size
  have c (p : Addr) (hp : p.block < W.heap.size) (hne : p.block ≠ X) : ((W'.setCell ⟨X, 0, none⟩ (.bool (sgn r))).setCell ⟨X, 1, none⟩ (.slice ar (lms r).length cr)).cell? p = W.cell? p :=
    (World.cell?_of_block ((Below.heap_setCell _ ⟨X, 1, none⟩ _ p.block hne).trans (Below.heap_setCell _ ⟨X, 0, none⟩ _ p.block hne))).trans (hb.cell hp)
  have f (p : Addr) (hp : p.block < W.heap.size) (hne : p.block ≠ X) : ((W'.setCell ⟨X, 0, none⟩ (.bool (sgn r))).setCell ⟨X, 1, none⟩ (.slice ar (lms r).length cr)).frozen? p = W.frozen? p :=
    (World.frozen?_of_block ((Below.heap_setCell _ ⟨X, 1, none⟩ _ p.block hne).trans (Below.heap_setCell _ ⟨X, 0, none⟩ _ p.block hne))).trans (hb.frozen hp)
  have v0 := (hb.cell (p := ⟨X, 0, none⟩) hz).trans h.x0
  have v1 := (hb.cell (p := ⟨X, 1, none⟩) hz).trans h.x1
  have g0 := (hb.frozen (p := ⟨X, 0, none⟩) hz).trans h.g0
  have g1 := (hb.frozen (p := ⟨X, 1, none⟩) hz).trans h.g1
  refine ⟨(c ⟨w.heap.size, 0, none⟩ (by dsimp only; omega) (by dsimp only; omega)).trans h.k0, (c ⟨w.heap.size, 1, none⟩ (by dsimp only; omega) (by dsimp only; omega)).trans h.k1,
    (f ⟨w.heap.size, 0, none⟩ (by dsimp only; omega) (by dsimp only; omega)).trans h.f0, (f ⟨w.heap.size, 1, none⟩ (by dsimp only; omega) (by dsimp only; omega)).trans h.f1, by go_simp, by go_simp, by go_simp, by go_simp, hw, by simp; omega, ?_, ?_⟩
  · exact ((hN.setCell (p := ⟨X, 0, none⟩) hz _).setCell (p := ⟨X, 1, none⟩) hz _).mono (by omega)
  · exact ((bl_trans h.bel hb).setCell (p := ⟨X, 0, none⟩) (by dsimp only; omega) _).setCell (p := ⟨X, 1, none⟩) (by dsimp only; omega) _
theorem ten_lenS {k : Nat} (m : Nat) (h : k ≤ 2 * m) : (lms (((10 : Nat) ^ k : Nat) : Int)).length ≤ m + 1 := by
  refine Num.limbs_len.2 ?_
  rw [Int.natAbs_natCast]
  have h2 : (10 : Nat) ^ k ≤ 10 ^ (2 * m) := Nat.pow_le_pow_right (by decide) h
  rw [Nat.pow_mul] at h2
  have h3 : ((10 : Nat) ^ 2) ^ m ≤ 4294967296 ^ m := Nat.pow_le_pow_left (by decide) _
  have h4 : (4294967296 : Nat) ^ m < 4294967296 ^ (m + 1) := Nat.pow_lt_pow_right (by decide) (Nat.lt_succ_self _)
  exact Nat.lt_of_le_of_lt (Nat.le_trans h2 h3) h4
set_option maxHeartbeats 4000000 in
set_option maxRecDepth 20000 in
theorem tenS (n : Nat) (w : World) (hn : n ≤ 2000) :
    Calls Tryz.prog 105 #[.int .i64 n] w fun e w' => ∃ v, e = .returned v ∧ New w' w.heap.size v ((10 : Int) ^ n) ∧ Below w.heap.size w w' := by
  have k0 : (w.alloc (Obj.cells #[Value.bool false, Value.slice none 0 0] 40)).cell? ⟨w.heap.size, 0, none⟩ = some (Value.bool false) := by go_simp
  have k1 : (w.alloc (Obj.cells #[Value.bool false, Value.slice none 0 0] 40)).cell? ⟨w.heap.size, 1, none⟩ = some (Value.slice none 0 0) := by go_simp
  have f0 : (w.alloc (Obj.cells #[Value.bool false, Value.slice none 0 0] 40)).frozen? ⟨w.heap.size, 0, none⟩ = false := by go_simp
  have f1 : (w.alloc (Obj.cells #[Value.bool false, Value.slice none 0 0] 40)).frozen? ⟨w.heap.size, 1, none⟩ = false := by go_simp
  have z1 : w.heap.size < (w.alloc (Obj.cells #[Value.bool false, Value.slice none 0 0] 40)).heap.size := by simp only [World.size_alloc]; omega
  have HB := hide (bl_alloc (bl_refl w) (Obj.cells #[Value.bool false, Value.slice none 0 0] 40))
  go_enter Tryz.func105, Tryz.ntmps105
  go_wp2_with fail
  generalize w.alloc (Obj.cells #[Value.bool false, Value.slice none 0 0] 40) = W0 at *
  refine (fromS 1 _ (by decide) (by decide)).mono ?_
  rintro e w1 ⟨v1, rfl, ⟨a1, c1, rfl, ho1⟩, hb1⟩
  have hb1s := hb1.size
  have zq : w.heap.size < w1.heap.size := Nat.lt_of_lt_of_le z1 hb1s
  have HP : Hid (BxSt w (w1.alloc (Obj.cells #[Value.bool (sgn 1), Value.slice a1 (lms 1).length c1] 40)) w1.heap.size 1 a1 c1) := hide (by
    have hbl := bl_alloc (bl_refl w1) (Obj.cells #[Value.bool (sgn 1), Value.slice a1 (lms 1).length c1] 40)
    exact ⟨(hbl.cell (p := ⟨w.heap.size, 0, none⟩) zq).trans ((hb1.cell (p := ⟨w.heap.size, 0, none⟩) z1).trans k0), (hbl.cell (p := ⟨w.heap.size, 1, none⟩) zq).trans ((hb1.cell (p := ⟨w.heap.size, 1, none⟩) z1).trans k1), (hbl.frozen (p := ⟨w.heap.size, 0, none⟩) zq).trans ((hb1.frozen (p := ⟨w.heap.size, 0, none⟩) z1).trans f0), (hbl.frozen (p := ⟨w.heap.size, 1, none⟩) zq).trans ((hb1.frozen (p := ⟨w.heap.size, 1, none⟩) z1).trans f1), by go_simp, by go_simp, by go_simp, by go_simp, zq, by simp only [World.size_alloc]; omega, (ho1.below hbl).mono (by omega), bl_trans (bl_trans HB.out hb1) hbl⟩)
  clear k0 k1 f0 f1 z1 HB ho1 hb1 hb1s zq
  go_wp2_with fail
  generalize w1.alloc (Obj.cells #[Value.bool (sgn 1), Value.slice a1 (lms 1).length c1] 40) = w2 at *
  go_wp2
  go_loopw [4] (fun i wr => ∃ (k : Nat) (av : Option Addr) (cv : Nat), k ≤ n ∧ i = .int .i64 k ∧ Hid (BxSt w wr w1.heap.size (((10 : Nat) ^ k : Nat) : Int) av cv)) (fun i _ => n - (intOf i).toNat)
  case atStart => exact ⟨0, a1, c1, Nat.zero_le _, rfl, HP⟩
  case round =>
    clear HP
    obtain ⟨k, av, cv, hk, rfl, hP⟩ := hrel
    obtain ⟨k0, k1, f0, f1, x0, x1, g0, g1, zw, zX, own, bel⟩ := hP.out
    have HO := hide own
    have HB := hide bel
    clear own bel
    by_cases hlt : k < n
    · have hlt' : (k : Int) < (n : Int) := by omega
      have hk0 : (0 : Int) ≤ (k : Int) := by omega
      have hl0 := ten_lenS (k := k) 1000 (by omega)
      obtain ⟨q1, hq1⟩ : ∃ q1, (10 : Nat) ^ (k + 1) = q1 := ⟨_, rfl⟩
      have HQ : Hid ((((10 : Nat) ^ k : Nat) : Int) * 10 = (q1 : Int)) := hide (by rw [← hq1, Nat.pow_succ]; omega)
      have HQ1 := hide hq1
      clear hq1
      generalize (10 : Nat) ^ k = q at *
      go_wp2_with fail
      go_region_with
        (first
          | (go_at_call 18; refine (fromS 10 _ (by decide) (by decide)).mono ?_; rintro e wA ⟨vA, rfl, ⟨aA, cA, rfl, hoA⟩, hbAr⟩; have hbA : Below wr.heap.size wr wA := (bl_refl wr).drew.trans hbAr; have yA := hbA.size; have x0 := (hbAr.cell (p := ⟨w1.heap.size, 0, none⟩) (by dsimp only; rw [World.size_drew]; omega)).trans x0; have x1 := (hbAr.cell (p := ⟨w1.heap.size, 1, none⟩) (by dsimp only; rw [World.size_drew]; omega)).trans x1)
          | (go_at_call 103; refine (mulS (.agg #[.bool (sgn (q : Int)), .slice av (lms (q : Int)).length cv]) (.agg #[.bool (sgn 10), .slice aA (lms 10).length cA]) (q : Int) 10 _ ⟨av, cv, rfl, HO.out.seg.below hbA⟩ ⟨aA, cA, rfl, hoA.seg⟩ (by omega) len10).mono ?_; rw [HQ.out]; rintro e wB ⟨vB, rfl, ⟨aB, cB, rfl, hoB⟩, hbBr⟩; have hbB : Below wr.heap.size wr wB := bl_trans hbA hbBr; have yB := hbBr.size; have HP8 := hide (hP.out.store hbB (hoB.mono (base' := wr.heap.size) (by omega))); have g0 := (hbB.frozen (p := ⟨w1.heap.size, 0, none⟩) zX).trans g0; have g1 := (hbB.frozen (p := ⟨w1.heap.size, 1, none⟩) zX).trans g1; have x0 := (hbBr.cell (p := ⟨w1.heap.size, 0, none⟩) (by dsimp only; omega)).trans x0; have x1 := (hbBr.cell (p := ⟨w1.heap.size, 1, none⟩) (by dsimp only; omega)).trans x1))
      all_goals go_wp2
      all_goals exact ⟨⟨k + 1, aB, cB, by omega, by go_num, hide (by rw [HQ1.out]; exact HP8.out)⟩, by simp [intOf]; omega⟩
    · have hE : k = n := by omega
      subst hE
      have hlt' : ¬ (k : Int) < (k : Int) := by omega
      have HE : Hid ((((10 : Nat) ^ k : Nat) : Int) = (10 : Int) ^ k) := hide (Int.natCast_pow 10 k)
      have HN : Hid (∀ x y, New ((wr.setCell ⟨w.heap.size, 0, none⟩ x).setCell ⟨w.heap.size, 1, none⟩ y) w.heap.size (.agg #[.bool (sgn (((10 : Nat) ^ k : Nat) : Int)), .slice av (lms (((10 : Nat) ^ k : Nat) : Int)).length cv]) (((10 : Nat) ^ k : Nat) : Int)) := hide (fun x y =>
        ⟨av, cv, rfl, ((HO.out.setCell (p := ⟨w.heap.size, 0, none⟩) (by dsimp only; omega) _).setCell (p := ⟨w.heap.size, 1, none⟩) (by dsimp only; omega) _).mono (by omega)⟩)
      generalize (10 : Nat) ^ k = q at *
      go_wp2
      refine bodyPost_ret (v := .agg #[.bool (sgn (q : Int)), .slice av (lms (q : Int)).length cv]) (by simp [results, Tryz.results105, go_sem, k0, k1]) rfl ?_
      exact ⟨_, rfl, by rw [← HE.out]; exact HN.out _ _, (HB.out.setCell (p := ⟨w.heap.size, 0, none⟩) (Nat.le_refl _) _).setCell (p := ⟨w.heap.size, 1, none⟩) (Nat.le_refl _) _⟩
end Go.Proofs.YtkemplmhemnpbaaGreatDoor

/- Walks of l03Decimal: a number without a stroke, cut as the specification cuts it. -/
namespace Go.Proofs.YtkemplmhemnpbaaGreatDoor
open Go.RowKit
set_option linter.unusedVariables false

theorem len_mulI {x y : Int} {m n : Nat} (h1 : (lms x).length ≤ m) (h2 : (lms y).length ≤ n) : (lms (x * y)).length ≤ m + n := by
  unfold lms at *
  refine Num.limbs_len.2 ?_
  rw [Int.natAbs_mul, Nat.pow_add]
  exact Nat.mul_lt_mul'' (Num.limbs_len.1 h1) (Num.limbs_len.1 h2)
/-- what is read, shortened, not yet asked whether it is right -/
def rwN (o : Option (Nat × Nat)) : Int := match o with | none => 0 | some p => (p.1 : Int) / sgG p.1 p.2
def rwD (o : Option (Nat × Nat)) : Int := match o with | none => 0 | some p => (p.2 : Int) / sgG p.1 p.2
def RawAns (o : Option (Nat × Nat)) (w w' : World) (e : Ending) : Prop :=
  ∃ b1 e1 b2 e2, e = .returned (.tuple #[.agg #[.bool (sgn (rwN o)), .slice b1 (lms (rwN o)).length e1, .bool (sgn (rwD o)), .slice b2 (lms (rwD o)).length e2], .bool o.isSome]) ∧ Own w' w.heap.size b1 (lms (rwN o)).length e1 (lms (rwN o)) ∧ Own w' w.heap.size b2 (lms (rwD o)).length e2 (lms (rwD o)) ∧ Apart b1 b2 ∧ Below w.heap.size w w'
theorem raw_no {o : Option (Nat × Nat)} {w w' : World} (h : o = none) (hb : Below w.heap.size w w') : RawAns o w w' (.returned (.tuple #[.agg #[.bool false, .slice none 0 0, .bool false, .slice none 0 0], .bool false])) := by
  subst h
  have h1 : rwN none = 0 := rfl
  have h2 : rwD none = 0 := rfl
  refine ⟨none, 0, none, 0, ?_, ?_, ?_, Apart.none _, hb⟩
  · rw [h1, h2, zero_sgn, zero_lms]; rfl
  · rw [h1, zero_lms]; exact Own.nil _ _
  · rw [h2, zero_lms]; exact Own.nil _ _
theorem raw_yes {o : Option (Nat × Nat)} {x y : Nat} {X Y : Int} {w w' : World} {a1 a2 : Option Addr} {c1 c2 : Nat} (h : o = some (x, y)) (hX : X = (x : Int)) (hY : Y = (y : Int)) (o1 : Own w' w.heap.size a1 (lms (X / sgG X Y)).length c1 (lms (X / sgG X Y))) (o2 : Own w' w.heap.size a2 (lms (Y / sgG X Y)).length c2 (lms (Y / sgG X Y))) (hap : Apart a1 a2) (hb : Below w.heap.size w w') :
    RawAns o w w' (.returned (.tuple #[.agg #[.bool (sgn (X / sgG X Y)), .slice a1 (lms (X / sgG X Y)).length c1, .bool (sgn (Y / sgG X Y)), .slice a2 (lms (Y / sgG X Y)).length c2], .bool true])) := by
  subst h hX hY
  exact ⟨a1, c1, a2, c2, rfl, o1, o2, hap, hb⟩

set_option maxHeartbeats 4000000 in
set_option maxRecDepth 20000 in
theorem decN1 (A R : ByteArray) (E m : Nat) (n : Int) (o : Option (Nat × Nat)) (w : World) (hsz : A.size + R.size ≤ 400) (hE0 : E ≤ R.size) (hn : -1000 < n ∧ n < 1000) (hR : R.toList.isEmpty = false) (hr0 : 0 < R.size) (h46 : (R[0].toNat : Int) = 46) (hE : runN R 1 = E) (hE1 : E = 1) (ho : o = none) :
    Calls Tryz.prog 78 #[.string A, .string R] w fun e w' => RawAns o w w' e := by
  have HE' := hide hE
  have HO' := hide ho
  clear hE ho
  have hE1' : (E : Int) = 1 := by omega
  have kr0 : (w.alloc (Obj.cells #[Value.bool false, Value.slice none 0 0, Value.bool false, Value.slice none 0 0] 42)).cell? ⟨w.heap.size, 0, none⟩ = some (Value.bool false) := by go_simp
  have fr0 : (w.alloc (Obj.cells #[Value.bool false, Value.slice none 0 0, Value.bool false, Value.slice none 0 0] 42)).frozen? ⟨w.heap.size, 0, none⟩ = false := by go_simp
  have kr1 : (w.alloc (Obj.cells #[Value.bool false, Value.slice none 0 0, Value.bool false, Value.slice none 0 0] 42)).cell? ⟨w.heap.size, 1, none⟩ = some (Value.slice none 0 0) := by go_simp
  have fr1 : (w.alloc (Obj.cells #[Value.bool false, Value.slice none 0 0, Value.bool false, Value.slice none 0 0] 42)).frozen? ⟨w.heap.size, 1, none⟩ = false := by go_simp
  have kr2 : (w.alloc (Obj.cells #[Value.bool false, Value.slice none 0 0, Value.bool false, Value.slice none 0 0] 42)).cell? ⟨w.heap.size, 2, none⟩ = some (Value.bool false) := by go_simp
  have fr2 : (w.alloc (Obj.cells #[Value.bool false, Value.slice none 0 0, Value.bool false, Value.slice none 0 0] 42)).frozen? ⟨w.heap.size, 2, none⟩ = false := by go_simp
  have kr3 : (w.alloc (Obj.cells #[Value.bool false, Value.slice none 0 0, Value.bool false, Value.slice none 0 0] 42)).cell? ⟨w.heap.size, 3, none⟩ = some (Value.slice none 0 0) := by go_simp
  have fr3 : (w.alloc (Obj.cells #[Value.bool false, Value.slice none 0 0, Value.bool false, Value.slice none 0 0] 42)).frozen? ⟨w.heap.size, 3, none⟩ = false := by go_simp
  have zr : w.heap.size < (w.alloc (Obj.cells #[Value.bool false, Value.slice none 0 0, Value.bool false, Value.slice none 0 0] 42)).heap.size := by simp only [World.size_alloc]; omega
  have HB := hide (bl_alloc (bl_refl w) (Obj.cells #[Value.bool false, Value.slice none 0 0, Value.bool false, Value.slice none 0 0] 42))
  go_enter Tryz.func78, Tryz.ntmps78
  go_wp2_with fail
  generalize (w.alloc (Obj.cells #[Value.bool false, Value.slice none 0 0, Value.bool false, Value.slice none 0 0] 42)) = w1 at *
  have z0 := zr
  refine (runS R 1 _ (by omega) (by omega)).mono ?_
  rw [HE'.out]
  rintro e w' ⟨rfl, hw⟩
  subst w'
  go_wp2
  refine bodyPost_ret (v := (.tuple #[.agg #[.bool false, .slice none 0 0, .bool false, .slice none 0 0], .bool false])) (by simp [results, Tryz.results78, go_sem, kr0, kr1, kr2, kr3]) rfl ?_
  exact raw_no HO'.out (set_four (Nat.le_refl _) HB.out _ _ _ _)

set_option maxHeartbeats 4000000 in
set_option maxRecDepth 20000 in
theorem decN2 (A R : ByteArray) (E m : Nat) (n : Int) (o : Option (Nat × Nat)) (w : World) (hsz : A.size + R.size ≤ 400) (hE0 : E ≤ R.size) (hn : -1000 < n ∧ n < 1000) (hq : R.toList.isEmpty = false) (hq0 : 0 < R.size) (hq1 : 0 < R.size) (h46 : ((R[0].toNat : Int) == 46) = false) (h101 : ((R[0].toNat : Int) == 101) = false) (ho : o = none) :
    Calls Tryz.prog 78 #[.string A, .string R] w fun e w' => RawAns o w w' e := by
  have HO' := hide ho
  clear ho
  have hq2 : (1 : Int) ≤ ((R.size : Nat) : Int) := by omega
  have h101b : ((R[0].toNat : Int) != 101) = true := by rw [bne_iff_ne]; exact beq_eq_false_iff_ne.1 h101
  have kr0 : (w.alloc (Obj.cells #[Value.bool false, Value.slice none 0 0, Value.bool false, Value.slice none 0 0] 42)).cell? ⟨w.heap.size, 0, none⟩ = some (Value.bool false) := by go_simp
  have fr0 : (w.alloc (Obj.cells #[Value.bool false, Value.slice none 0 0, Value.bool false, Value.slice none 0 0] 42)).frozen? ⟨w.heap.size, 0, none⟩ = false := by go_simp
  have kr1 : (w.alloc (Obj.cells #[Value.bool false, Value.slice none 0 0, Value.bool false, Value.slice none 0 0] 42)).cell? ⟨w.heap.size, 1, none⟩ = some (Value.slice none 0 0) := by go_simp
  have fr1 : (w.alloc (Obj.cells #[Value.bool false, Value.slice none 0 0, Value.bool false, Value.slice none 0 0] 42)).frozen? ⟨w.heap.size, 1, none⟩ = false := by go_simp
  have kr2 : (w.alloc (Obj.cells #[Value.bool false, Value.slice none 0 0, Value.bool false, Value.slice none 0 0] 42)).cell? ⟨w.heap.size, 2, none⟩ = some (Value.bool false) := by go_simp
  have fr2 : (w.alloc (Obj.cells #[Value.bool false, Value.slice none 0 0, Value.bool false, Value.slice none 0 0] 42)).frozen? ⟨w.heap.size, 2, none⟩ = false := by go_simp
  have kr3 : (w.alloc (Obj.cells #[Value.bool false, Value.slice none 0 0, Value.bool false, Value.slice none 0 0] 42)).cell? ⟨w.heap.size, 3, none⟩ = some (Value.slice none 0 0) := by go_simp
  have fr3 : (w.alloc (Obj.cells #[Value.bool false, Value.slice none 0 0, Value.bool false, Value.slice none 0 0] 42)).frozen? ⟨w.heap.size, 3, none⟩ = false := by go_simp
  have zr : w.heap.size < (w.alloc (Obj.cells #[Value.bool false, Value.slice none 0 0, Value.bool false, Value.slice none 0 0] 42)).heap.size := by simp only [World.size_alloc]; omega
  have HB := hide (bl_alloc (bl_refl w) (Obj.cells #[Value.bool false, Value.slice none 0 0, Value.bool false, Value.slice none 0 0] 42))
  go_enter Tryz.func78, Tryz.ntmps78
  go_wp2_with fail
  generalize (w.alloc (Obj.cells #[Value.bool false, Value.slice none 0 0, Value.bool false, Value.slice none 0 0] 42)) = w1 at *
  have z0 := zr
  refine (expS (R.extract 1 R.size) _ (by simp; omega)).mono ?_
  generalize expV (R.extract 1 R.size).data.toList = oe at *
  rintro e w' ⟨rfl, hw⟩
  subst w'
  generalize oe.getD 0 = ev at *
  generalize oe.isSome = eb at *
  go_wp2
  refine bodyPost_ret (v := (.tuple #[.agg #[.bool false, .slice none 0 0, .bool false, .slice none 0 0], .bool false])) (by simp [results, Tryz.results78, go_sem, kr0, kr1, kr2, kr3]) rfl ?_
  exact raw_no HO'.out (set_four (Nat.le_refl _) HB.out _ _ _ _)

set_option maxHeartbeats 4000000 in
set_option maxRecDepth 20000 in
theorem decN3 (A R : ByteArray) (E m : Nat) (n : Int) (o : Option (Nat × Nat)) (w : World) (hsz : A.size + R.size ≤ 400) (hE0 : E ≤ R.size) (hn : -1000 < n ∧ n < 1000) (hq : R.toList.isEmpty = false) (hq0 : 0 < R.size) (hq1 : 0 < R.size) (h46 : ((R[0].toNat : Int) == 46) = false) (h101 : (R[0].toNat : Int) = 101) (hexp : expV (R.extract 1 R.size).data.toList = none) (ho : o = none) :
    Calls Tryz.prog 78 #[.string A, .string R] w fun e w' => RawAns o w w' e := by
  have HEXP' := hide hexp
  have HO' := hide ho
  clear hexp ho
  have hq2 : (1 : Int) ≤ ((R.size : Nat) : Int) := by omega
  have h101b : ((R[0].toNat : Int) != 101) = false := by rw [h101]; rfl
  have kr0 : (w.alloc (Obj.cells #[Value.bool false, Value.slice none 0 0, Value.bool false, Value.slice none 0 0] 42)).cell? ⟨w.heap.size, 0, none⟩ = some (Value.bool false) := by go_simp
  have fr0 : (w.alloc (Obj.cells #[Value.bool false, Value.slice none 0 0, Value.bool false, Value.slice none 0 0] 42)).frozen? ⟨w.heap.size, 0, none⟩ = false := by go_simp
  have kr1 : (w.alloc (Obj.cells #[Value.bool false, Value.slice none 0 0, Value.bool false, Value.slice none 0 0] 42)).cell? ⟨w.heap.size, 1, none⟩ = some (Value.slice none 0 0) := by go_simp
  have fr1 : (w.alloc (Obj.cells #[Value.bool false, Value.slice none 0 0, Value.bool false, Value.slice none 0 0] 42)).frozen? ⟨w.heap.size, 1, none⟩ = false := by go_simp
  have kr2 : (w.alloc (Obj.cells #[Value.bool false, Value.slice none 0 0, Value.bool false, Value.slice none 0 0] 42)).cell? ⟨w.heap.size, 2, none⟩ = some (Value.bool false) := by go_simp
  have fr2 : (w.alloc (Obj.cells #[Value.bool false, Value.slice none 0 0, Value.bool false, Value.slice none 0 0] 42)).frozen? ⟨w.heap.size, 2, none⟩ = false := by go_simp
  have kr3 : (w.alloc (Obj.cells #[Value.bool false, Value.slice none 0 0, Value.bool false, Value.slice none 0 0] 42)).cell? ⟨w.heap.size, 3, none⟩ = some (Value.slice none 0 0) := by go_simp
  have fr3 : (w.alloc (Obj.cells #[Value.bool false, Value.slice none 0 0, Value.bool false, Value.slice none 0 0] 42)).frozen? ⟨w.heap.size, 3, none⟩ = false := by go_simp
  have zr : w.heap.size < (w.alloc (Obj.cells #[Value.bool false, Value.slice none 0 0, Value.bool false, Value.slice none 0 0] 42)).heap.size := by simp only [World.size_alloc]; omega
  have HB := hide (bl_alloc (bl_refl w) (Obj.cells #[Value.bool false, Value.slice none 0 0, Value.bool false, Value.slice none 0 0] 42))
  go_enter Tryz.func78, Tryz.ntmps78
  go_wp2_with fail
  generalize (w.alloc (Obj.cells #[Value.bool false, Value.slice none 0 0, Value.bool false, Value.slice none 0 0] 42)) = w1 at *
  have z0 := zr
  refine (expS (R.extract 1 R.size) _ (by simp; omega)).mono ?_
  rw [HEXP'.out]
  rintro e w' ⟨rfl, hw⟩
  subst w'
  go_wp2
  refine bodyPost_ret (v := (.tuple #[.agg #[.bool false, .slice none 0 0, .bool false, .slice none 0 0], .bool false])) (by simp [results, Tryz.results78, go_sem, kr0, kr1, kr2, kr3]) rfl ?_
  exact raw_no HO'.out (set_four (Nat.le_refl _) HB.out _ _ _ _)

set_option maxHeartbeats 4000000 in
set_option maxRecDepth 20000 in
theorem decN4 (A R : ByteArray) (E m : Nat) (n : Int) (o : Option (Nat × Nat)) (w : World) (hsz : A.size + R.size ≤ 400) (hE0 : E ≤ R.size) (hn : -1000 < n ∧ n < 1000) (hR : R.toList.isEmpty = false) (hr0 : 0 < R.size) (h46 : (R[0].toNat : Int) = 46) (hE : runN R 1 = E) (hE1 : 1 < E) (hq : (R.extract E R.size).toList.isEmpty = false) (hq0 : 0 < (R.extract E R.size).size) (hq1 : 0 < (R.size - E)) (h101 : (((R.extract E R.size)[0].toNat : Int) == 101) = false) (ho : o = none) :
    Calls Tryz.prog 78 #[.string A, .string R] w fun e w' => RawAns o w w' e := by
  have HE' := hide hE
  have HO' := hide ho
  clear hE ho
  have hE1' : ¬ (E : Int) = 1 := by omega
  have hE1b : ((E : Int) == 1) = false := by rw [beq_eq_false_iff_ne]; omega
  have hE2' : (1 : Int) ≤ (E : Int) := by omega
  have hE3' : (E : Int) ≤ (R.size : Int) := by omega
  have hq2 : (1 : Int) ≤ (((R.size - E) : Nat) : Int) := by omega
  have h101b : (((R.extract E R.size)[0].toNat : Int) != 101) = true := by rw [bne_iff_ne]; exact beq_eq_false_iff_ne.1 h101
  have kr0 : (w.alloc (Obj.cells #[Value.bool false, Value.slice none 0 0, Value.bool false, Value.slice none 0 0] 42)).cell? ⟨w.heap.size, 0, none⟩ = some (Value.bool false) := by go_simp
  have fr0 : (w.alloc (Obj.cells #[Value.bool false, Value.slice none 0 0, Value.bool false, Value.slice none 0 0] 42)).frozen? ⟨w.heap.size, 0, none⟩ = false := by go_simp
  have kr1 : (w.alloc (Obj.cells #[Value.bool false, Value.slice none 0 0, Value.bool false, Value.slice none 0 0] 42)).cell? ⟨w.heap.size, 1, none⟩ = some (Value.slice none 0 0) := by go_simp
  have fr1 : (w.alloc (Obj.cells #[Value.bool false, Value.slice none 0 0, Value.bool false, Value.slice none 0 0] 42)).frozen? ⟨w.heap.size, 1, none⟩ = false := by go_simp
  have kr2 : (w.alloc (Obj.cells #[Value.bool false, Value.slice none 0 0, Value.bool false, Value.slice none 0 0] 42)).cell? ⟨w.heap.size, 2, none⟩ = some (Value.bool false) := by go_simp
  have fr2 : (w.alloc (Obj.cells #[Value.bool false, Value.slice none 0 0, Value.bool false, Value.slice none 0 0] 42)).frozen? ⟨w.heap.size, 2, none⟩ = false := by go_simp
  have kr3 : (w.alloc (Obj.cells #[Value.bool false, Value.slice none 0 0, Value.bool false, Value.slice none 0 0] 42)).cell? ⟨w.heap.size, 3, none⟩ = some (Value.slice none 0 0) := by go_simp
  have fr3 : (w.alloc (Obj.cells #[Value.bool false, Value.slice none 0 0, Value.bool false, Value.slice none 0 0] 42)).frozen? ⟨w.heap.size, 3, none⟩ = false := by go_simp
  have zr : w.heap.size < (w.alloc (Obj.cells #[Value.bool false, Value.slice none 0 0, Value.bool false, Value.slice none 0 0] 42)).heap.size := by simp only [World.size_alloc]; omega
  have HB := hide (bl_alloc (bl_refl w) (Obj.cells #[Value.bool false, Value.slice none 0 0, Value.bool false, Value.slice none 0 0] 42))
  go_enter Tryz.func78, Tryz.ntmps78
  go_wp2_with fail
  generalize (w.alloc (Obj.cells #[Value.bool false, Value.slice none 0 0, Value.bool false, Value.slice none 0 0] 42)) = w1 at *
  have z0 := zr
  refine (runS R 1 _ (by omega) (by omega)).mono ?_
  rw [HE'.out]
  rintro e w' ⟨rfl, hw⟩
  subst w'
  go_wp2_with fail
  refine (expS ((R.extract E R.size).extract 1 (R.size - E)) _ (by simp; omega)).mono ?_
  generalize expV ((R.extract E R.size).extract 1 (R.size - E)).data.toList = oe at *
  rintro e w' ⟨rfl, hw⟩
  subst w'
  generalize oe.getD 0 = ev at *
  generalize oe.isSome = eb at *
  go_wp2
  refine bodyPost_ret (v := (.tuple #[.agg #[.bool false, .slice none 0 0, .bool false, .slice none 0 0], .bool false])) (by simp [results, Tryz.results78, go_sem, kr0, kr1, kr2, kr3]) rfl ?_
  exact raw_no HO'.out (set_four (Nat.le_refl _) HB.out _ _ _ _)

set_option maxHeartbeats 4000000 in
set_option maxRecDepth 20000 in
theorem decN5 (A R : ByteArray) (E m : Nat) (n : Int) (o : Option (Nat × Nat)) (w : World) (hsz : A.size + R.size ≤ 400) (hE0 : E ≤ R.size) (hn : -1000 < n ∧ n < 1000) (hR : R.toList.isEmpty = false) (hr0 : 0 < R.size) (h46 : (R[0].toNat : Int) = 46) (hE : runN R 1 = E) (hE1 : 1 < E) (hq : (R.extract E R.size).toList.isEmpty = false) (hq0 : 0 < (R.extract E R.size).size) (hq1 : 0 < (R.size - E)) (h101 : ((R.extract E R.size)[0].toNat : Int) = 101) (hexp : expV ((R.extract E R.size).extract 1 (R.size - E)).data.toList = none) (ho : o = none) :
    Calls Tryz.prog 78 #[.string A, .string R] w fun e w' => RawAns o w w' e := by
  have HE' := hide hE
  have HEXP' := hide hexp
  have HO' := hide ho
  clear hE hexp ho
  have hE1' : ¬ (E : Int) = 1 := by omega
  have hE1b : ((E : Int) == 1) = false := by rw [beq_eq_false_iff_ne]; omega
  have hE2' : (1 : Int) ≤ (E : Int) := by omega
  have hE3' : (E : Int) ≤ (R.size : Int) := by omega
  have hq2 : (1 : Int) ≤ (((R.size - E) : Nat) : Int) := by omega
  have h101b : (((R.extract E R.size)[0].toNat : Int) != 101) = false := by rw [h101]; rfl
  have kr0 : (w.alloc (Obj.cells #[Value.bool false, Value.slice none 0 0, Value.bool false, Value.slice none 0 0] 42)).cell? ⟨w.heap.size, 0, none⟩ = some (Value.bool false) := by go_simp
  have fr0 : (w.alloc (Obj.cells #[Value.bool false, Value.slice none 0 0, Value.bool false, Value.slice none 0 0] 42)).frozen? ⟨w.heap.size, 0, none⟩ = false := by go_simp
  have kr1 : (w.alloc (Obj.cells #[Value.bool false, Value.slice none 0 0, Value.bool false, Value.slice none 0 0] 42)).cell? ⟨w.heap.size, 1, none⟩ = some (Value.slice none 0 0) := by go_simp
  have fr1 : (w.alloc (Obj.cells #[Value.bool false, Value.slice none 0 0, Value.bool false, Value.slice none 0 0] 42)).frozen? ⟨w.heap.size, 1, none⟩ = false := by go_simp
  have kr2 : (w.alloc (Obj.cells #[Value.bool false, Value.slice none 0 0, Value.bool false, Value.slice none 0 0] 42)).cell? ⟨w.heap.size, 2, none⟩ = some (Value.bool false) := by go_simp
  have fr2 : (w.alloc (Obj.cells #[Value.bool false, Value.slice none 0 0, Value.bool false, Value.slice none 0 0] 42)).frozen? ⟨w.heap.size, 2, none⟩ = false := by go_simp
  have kr3 : (w.alloc (Obj.cells #[Value.bool false, Value.slice none 0 0, Value.bool false, Value.slice none 0 0] 42)).cell? ⟨w.heap.size, 3, none⟩ = some (Value.slice none 0 0) := by go_simp
  have fr3 : (w.alloc (Obj.cells #[Value.bool false, Value.slice none 0 0, Value.bool false, Value.slice none 0 0] 42)).frozen? ⟨w.heap.size, 3, none⟩ = false := by go_simp
  have zr : w.heap.size < (w.alloc (Obj.cells #[Value.bool false, Value.slice none 0 0, Value.bool false, Value.slice none 0 0] 42)).heap.size := by simp only [World.size_alloc]; omega
  have HB := hide (bl_alloc (bl_refl w) (Obj.cells #[Value.bool false, Value.slice none 0 0, Value.bool false, Value.slice none 0 0] 42))
  go_enter Tryz.func78, Tryz.ntmps78
  go_wp2_with fail
  generalize (w.alloc (Obj.cells #[Value.bool false, Value.slice none 0 0, Value.bool false, Value.slice none 0 0] 42)) = w1 at *
  have z0 := zr
  refine (runS R 1 _ (by omega) (by omega)).mono ?_
  rw [HE'.out]
  rintro e w' ⟨rfl, hw⟩
  subst w'
  go_wp2_with fail
  refine (expS ((R.extract E R.size).extract 1 (R.size - E)) _ (by simp; omega)).mono ?_
  rw [HEXP'.out]
  rintro e w' ⟨rfl, hw⟩
  subst w'
  go_wp2
  refine bodyPost_ret (v := (.tuple #[.agg #[.bool false, .slice none 0 0, .bool false, .slice none 0 0], .bool false])) (by simp [results, Tryz.results78, go_sem, kr0, kr1, kr2, kr3]) rfl ?_
  exact raw_no HO'.out (set_four (Nat.le_refl _) HB.out _ _ _ _)
end Go.Proofs.YtkemplmhemnpbaaGreatDoor

/- Walks of l03Decimal at numbers without a point. -/
namespace Go.Proofs.YtkemplmhemnpbaaGreatDoor
open Go.RowKit
set_option linter.unusedVariables false

set_option maxHeartbeats 4000000 in
set_option maxRecDepth 20000 in
theorem decY1 (A R : ByteArray) (E m : Nat) (n : Int) (o : Option (Nat × Nat)) (w : World) (hsz : A.size + R.size ≤ 400) (hE0 : E ≤ R.size) (hn : -1000 < n ∧ n < 1000) (hq : R.toList.isEmpty = true) (hda : digAll A.data.toList = true) (hd4 : A.size ≤ 400) (hm : m ≤ 2000) (ho : o = some (valN A.data.toList * 10 ^ 0, 1)) :
    Calls Tryz.prog 78 #[.string A, .string R] w fun e w' => RawAns o w w' e := by
  have HDA' := hide hda
  have HO' := hide ho
  clear hda ho
  have kr0 : (w.alloc (Obj.cells #[Value.bool false, Value.slice none 0 0, Value.bool false, Value.slice none 0 0] 42)).cell? ⟨w.heap.size, 0, none⟩ = some (Value.bool false) := by go_simp
  have fr0 : (w.alloc (Obj.cells #[Value.bool false, Value.slice none 0 0, Value.bool false, Value.slice none 0 0] 42)).frozen? ⟨w.heap.size, 0, none⟩ = false := by go_simp
  have kr1 : (w.alloc (Obj.cells #[Value.bool false, Value.slice none 0 0, Value.bool false, Value.slice none 0 0] 42)).cell? ⟨w.heap.size, 1, none⟩ = some (Value.slice none 0 0) := by go_simp
  have fr1 : (w.alloc (Obj.cells #[Value.bool false, Value.slice none 0 0, Value.bool false, Value.slice none 0 0] 42)).frozen? ⟨w.heap.size, 1, none⟩ = false := by go_simp
  have kr2 : (w.alloc (Obj.cells #[Value.bool false, Value.slice none 0 0, Value.bool false, Value.slice none 0 0] 42)).cell? ⟨w.heap.size, 2, none⟩ = some (Value.bool false) := by go_simp
  have fr2 : (w.alloc (Obj.cells #[Value.bool false, Value.slice none 0 0, Value.bool false, Value.slice none 0 0] 42)).frozen? ⟨w.heap.size, 2, none⟩ = false := by go_simp
  have kr3 : (w.alloc (Obj.cells #[Value.bool false, Value.slice none 0 0, Value.bool false, Value.slice none 0 0] 42)).cell? ⟨w.heap.size, 3, none⟩ = some (Value.slice none 0 0) := by go_simp
  have fr3 : (w.alloc (Obj.cells #[Value.bool false, Value.slice none 0 0, Value.bool false, Value.slice none 0 0] 42)).frozen? ⟨w.heap.size, 3, none⟩ = false := by go_simp
  have zr : w.heap.size < (w.alloc (Obj.cells #[Value.bool false, Value.slice none 0 0, Value.bool false, Value.slice none 0 0] 42)).heap.size := by simp only [World.size_alloc]; omega
  have HB := hide (bl_alloc (bl_refl w) (Obj.cells #[Value.bool false, Value.slice none 0 0, Value.bool false, Value.slice none 0 0] 42))
  go_enter Tryz.func78, Tryz.ntmps78
  go_wp2_with fail
  generalize (w.alloc (Obj.cells #[Value.bool false, Value.slice none 0 0, Value.bool false, Value.slice none 0 0] 42)) = w1 at *
  have z0 := zr
  refine (digitsS A _ HDA'.out hd4).mono ?_
  have hl1 : (lms (valN A.data.toList : Int)).length ≤ 200 := lms_short HDA'.out (by rw [bsize]; exact hd4)
  generalize valN A.data.toList = x at *
  rintro e w2 ⟨v1, rfl, ⟨a1, c1, rfl, ho1⟩, hb⟩
  have yw2 := hb.size
  replace kr0 := (hb.cell (p := ⟨w.heap.size, 0, none⟩) (by dsimp only; omega)).trans kr0
  replace fr0 := (hb.frozen (p := ⟨w.heap.size, 0, none⟩) (by dsimp only; omega)).trans fr0
  replace kr1 := (hb.cell (p := ⟨w.heap.size, 1, none⟩) (by dsimp only; omega)).trans kr1
  replace fr1 := (hb.frozen (p := ⟨w.heap.size, 1, none⟩) (by dsimp only; omega)).trans fr1
  replace kr2 := (hb.cell (p := ⟨w.heap.size, 2, none⟩) (by dsimp only; omega)).trans kr2
  replace fr2 := (hb.frozen (p := ⟨w.heap.size, 2, none⟩) (by dsimp only; omega)).trans fr2
  replace kr3 := (hb.cell (p := ⟨w.heap.size, 3, none⟩) (by dsimp only; omega)).trans kr3
  replace fr3 := (hb.frozen (p := ⟨w.heap.size, 3, none⟩) (by dsimp only; omega)).trans fr3
  replace zr := Nat.lt_of_lt_of_le zr hb.size
  replace HB := hide (bl_trans HB.out hb)
  clear hb
  have S1 := hide ho1.seg
  clear ho1
  go_wp2_with fail
  refine (tenS 0 _ (Nat.zero_le _)).mono ?_
  have hl2 : (lms ((10 : Int) ^ 0)).length ≤ 1001 := by have := ten_lenS (k := 0) 1000 (by omega); rw [Int.natCast_pow] at this; exact this
  have HY : Hid ((10 : Int) ^ 0 = (((10 : Nat) ^ 0 : Nat) : Int)) := hide (Int.natCast_pow 10 0).symm
  have hy0 : (10 : Int) ^ 0 ≠ 0 := Int.pow_ne_zero (by decide)
  generalize (10 : Int) ^ 0 = y at *
  rintro e w3 ⟨v2, rfl, ⟨a2, c2, rfl, ho2⟩, hb⟩
  have yw3 := hb.size
  replace kr0 := (hb.cell (p := ⟨w.heap.size, 0, none⟩) (by dsimp only; omega)).trans kr0
  replace fr0 := (hb.frozen (p := ⟨w.heap.size, 0, none⟩) (by dsimp only; omega)).trans fr0
  replace kr1 := (hb.cell (p := ⟨w.heap.size, 1, none⟩) (by dsimp only; omega)).trans kr1
  replace fr1 := (hb.frozen (p := ⟨w.heap.size, 1, none⟩) (by dsimp only; omega)).trans fr1
  replace kr2 := (hb.cell (p := ⟨w.heap.size, 2, none⟩) (by dsimp only; omega)).trans kr2
  replace fr2 := (hb.frozen (p := ⟨w.heap.size, 2, none⟩) (by dsimp only; omega)).trans fr2
  replace kr3 := (hb.cell (p := ⟨w.heap.size, 3, none⟩) (by dsimp only; omega)).trans kr3
  replace fr3 := (hb.frozen (p := ⟨w.heap.size, 3, none⟩) (by dsimp only; omega)).trans fr3
  replace S1 := hide (S1.out.below hb)
  replace zr := Nat.lt_of_lt_of_le zr hb.size
  replace HB := hide (bl_trans HB.out hb)
  clear hb
  have S2 := hide ho2.seg
  clear ho2
  go_wp2_with fail
  refine (mulS (.agg #[.bool (sgn (x : Int)), .slice a1 (lms (x : Int)).length c1]) (.agg #[.bool (sgn y), .slice a2 (lms y).length c2]) x y _ ⟨a1, c1, rfl, S1.out⟩ ⟨a2, c2, rfl, S2.out⟩ (by omega) (by omega)).mono ?_
  have hl3 : (lms ((x : Int) * y)).length ≤ 1201 := len_mulI hl1 hl2
  have HP : Hid ((x : Int) * y = ((x * 10 ^ 0 : Nat) : Int)) := hide (by rw [HY.out, Int.natCast_mul])
  generalize (x : Int) * y = p at *
  rintro e w4 ⟨v3, rfl, ⟨a3, c3, rfl, ho3⟩, hb⟩
  have yw4 := hb.size
  replace kr0 := (hb.cell (p := ⟨w.heap.size, 0, none⟩) (by dsimp only; omega)).trans kr0
  replace fr0 := (hb.frozen (p := ⟨w.heap.size, 0, none⟩) (by dsimp only; omega)).trans fr0
  replace kr1 := (hb.cell (p := ⟨w.heap.size, 1, none⟩) (by dsimp only; omega)).trans kr1
  replace fr1 := (hb.frozen (p := ⟨w.heap.size, 1, none⟩) (by dsimp only; omega)).trans fr1
  replace kr2 := (hb.cell (p := ⟨w.heap.size, 2, none⟩) (by dsimp only; omega)).trans kr2
  replace fr2 := (hb.frozen (p := ⟨w.heap.size, 2, none⟩) (by dsimp only; omega)).trans fr2
  replace kr3 := (hb.cell (p := ⟨w.heap.size, 3, none⟩) (by dsimp only; omega)).trans kr3
  replace fr3 := (hb.frozen (p := ⟨w.heap.size, 3, none⟩) (by dsimp only; omega)).trans fr3
  replace S1 := hide (S1.out.below hb)
  replace S2 := hide (S2.out.below hb)
  replace zr := Nat.lt_of_lt_of_le zr hb.size
  replace HB := hide (bl_trans HB.out hb)
  clear hb
  have S3 := hide ho3.seg
  clear ho3
  go_wp2_with fail
  refine (fromS 1 _ (by decide) (by decide)).mono ?_
  rintro e w5 ⟨v4, rfl, ⟨a4, c4, rfl, ho4⟩, hb⟩
  have yw5 := hb.size
  replace kr0 := (hb.cell (p := ⟨w.heap.size, 0, none⟩) (by dsimp only; omega)).trans kr0
  replace fr0 := (hb.frozen (p := ⟨w.heap.size, 0, none⟩) (by dsimp only; omega)).trans fr0
  replace kr1 := (hb.cell (p := ⟨w.heap.size, 1, none⟩) (by dsimp only; omega)).trans kr1
  replace fr1 := (hb.frozen (p := ⟨w.heap.size, 1, none⟩) (by dsimp only; omega)).trans fr1
  replace kr2 := (hb.cell (p := ⟨w.heap.size, 2, none⟩) (by dsimp only; omega)).trans kr2
  replace fr2 := (hb.frozen (p := ⟨w.heap.size, 2, none⟩) (by dsimp only; omega)).trans fr2
  replace kr3 := (hb.cell (p := ⟨w.heap.size, 3, none⟩) (by dsimp only; omega)).trans kr3
  replace fr3 := (hb.frozen (p := ⟨w.heap.size, 3, none⟩) (by dsimp only; omega)).trans fr3
  replace S1 := hide (S1.out.below hb)
  replace S2 := hide (S2.out.below hb)
  replace S3 := hide (S3.out.below hb)
  replace zr := Nat.lt_of_lt_of_le zr hb.size
  replace HB := hide (bl_trans HB.out hb)
  clear hb
  have S4 := hide ho4.seg
  clear ho4
  go_wp2_with fail
  refine (makeR p 1 a3 c3 a4 c4 _ S3.out S4.out (by decide) (by omega) (Nat.le_trans (Num.limbs_len.2 (show (1 : Int).natAbs < 4294967296 ^ 1 by decide)) (by decide))).mono ?_
  rintro e w6 ⟨d1, f1, d2, f2, rfl, hu1, hu2, hap, hb⟩
  have yw6 := hb.size
  replace kr0 := (hb.cell (p := ⟨w.heap.size, 0, none⟩) (by dsimp only; omega)).trans kr0
  replace fr0 := (hb.frozen (p := ⟨w.heap.size, 0, none⟩) (by dsimp only; omega)).trans fr0
  replace kr1 := (hb.cell (p := ⟨w.heap.size, 1, none⟩) (by dsimp only; omega)).trans kr1
  replace fr1 := (hb.frozen (p := ⟨w.heap.size, 1, none⟩) (by dsimp only; omega)).trans fr1
  replace kr2 := (hb.cell (p := ⟨w.heap.size, 2, none⟩) (by dsimp only; omega)).trans kr2
  replace fr2 := (hb.frozen (p := ⟨w.heap.size, 2, none⟩) (by dsimp only; omega)).trans fr2
  replace kr3 := (hb.cell (p := ⟨w.heap.size, 3, none⟩) (by dsimp only; omega)).trans kr3
  replace fr3 := (hb.frozen (p := ⟨w.heap.size, 3, none⟩) (by dsimp only; omega)).trans fr3
  replace S1 := hide (S1.out.below hb)
  replace S2 := hide (S2.out.below hb)
  replace S3 := hide (S3.out.below hb)
  replace S4 := hide (S4.out.below hb)
  replace zr := Nat.lt_of_lt_of_le zr hb.size
  replace HB := hide (bl_trans HB.out hb)
  clear hb
  have HO1 := hide hu1
  have HO2 := hide hu2
  have HAP := hide hap
  clear hu1 hu2 hap
  go_wp2
  refine bodyPost_ret (v := (.tuple #[Value.agg #[Value.bool (sgn (p / sgG p 1)), Value.slice d1 (lms (p / sgG p 1)).length f1, Value.bool (sgn (1 / sgG p 1)), Value.slice d2 (lms (1 / sgG p 1)).length f2], .bool true])) (by simp [results, Tryz.results78, go_sem, kr0, kr1, kr2, kr3]) rfl ?_
  have h1 := own_four' (lo := w.heap.size) HO1.out (show w.heap.size < _ by omega) (by omega) (Value.bool (sgn (p / sgG p 1))) (Value.slice d1 (lms (p / sgG p 1)).length f1) (Value.bool (sgn (1 / sgG p 1))) (Value.slice d2 (lms (1 / sgG p 1)).length f2)
  have h2 := own_four' (lo := w.heap.size) HO2.out (show w.heap.size < _ by omega) (by omega) (Value.bool (sgn (p / sgG p 1))) (Value.slice d1 (lms (p / sgG p 1)).length f1) (Value.bool (sgn (1 / sgG p 1))) (Value.slice d2 (lms (1 / sgG p 1)).length f2)
  exact raw_yes HO'.out HP.out rfl h1 h2 HAP.out (set_four (Nat.le_refl _) HB.out _ _ _ _)

set_option maxHeartbeats 4000000 in
set_option maxRecDepth 20000 in
theorem decY2 (A R : ByteArray) (E m : Nat) (n : Int) (o : Option (Nat × Nat)) (w : World) (hsz : A.size + R.size ≤ 400) (hE0 : E ≤ R.size) (hn : -1000 < n ∧ n < 1000) (hq : R.toList.isEmpty = false) (hq0 : 0 < R.size) (hq1 : 0 < R.size) (h46 : ((R[0].toNat : Int) == 46) = false) (h101 : (R[0].toNat : Int) = 101) (hexp : expV (R.extract 1 R.size).data.toList = some n) (hda : digAll A.data.toList = true) (hd4 : A.size ≤ 400) (hm : m ≤ 2000) (hm0 : 0 < m) (hK : n = -(m : Int)) (ho : o = some (valN A.data.toList, 10 ^ m)) :
    Calls Tryz.prog 78 #[.string A, .string R] w fun e w' => RawAns o w w' e := by
  have HEXP' := hide hexp
  have HDA' := hide hda
  have HO' := hide ho
  clear hexp hda ho
  have hq2 : (1 : Int) ≤ ((R.size : Nat) : Int) := by omega
  have h101b : ((R[0].toNat : Int) != 101) = false := by rw [h101]; rfl
  have kr0 : (w.alloc (Obj.cells #[Value.bool false, Value.slice none 0 0, Value.bool false, Value.slice none 0 0] 42)).cell? ⟨w.heap.size, 0, none⟩ = some (Value.bool false) := by go_simp
  have fr0 : (w.alloc (Obj.cells #[Value.bool false, Value.slice none 0 0, Value.bool false, Value.slice none 0 0] 42)).frozen? ⟨w.heap.size, 0, none⟩ = false := by go_simp
  have kr1 : (w.alloc (Obj.cells #[Value.bool false, Value.slice none 0 0, Value.bool false, Value.slice none 0 0] 42)).cell? ⟨w.heap.size, 1, none⟩ = some (Value.slice none 0 0) := by go_simp
  have fr1 : (w.alloc (Obj.cells #[Value.bool false, Value.slice none 0 0, Value.bool false, Value.slice none 0 0] 42)).frozen? ⟨w.heap.size, 1, none⟩ = false := by go_simp
  have kr2 : (w.alloc (Obj.cells #[Value.bool false, Value.slice none 0 0, Value.bool false, Value.slice none 0 0] 42)).cell? ⟨w.heap.size, 2, none⟩ = some (Value.bool false) := by go_simp
  have fr2 : (w.alloc (Obj.cells #[Value.bool false, Value.slice none 0 0, Value.bool false, Value.slice none 0 0] 42)).frozen? ⟨w.heap.size, 2, none⟩ = false := by go_simp
  have kr3 : (w.alloc (Obj.cells #[Value.bool false, Value.slice none 0 0, Value.bool false, Value.slice none 0 0] 42)).cell? ⟨w.heap.size, 3, none⟩ = some (Value.slice none 0 0) := by go_simp
  have fr3 : (w.alloc (Obj.cells #[Value.bool false, Value.slice none 0 0, Value.bool false, Value.slice none 0 0] 42)).frozen? ⟨w.heap.size, 3, none⟩ = false := by go_simp
  have zr : w.heap.size < (w.alloc (Obj.cells #[Value.bool false, Value.slice none 0 0, Value.bool false, Value.slice none 0 0] 42)).heap.size := by simp only [World.size_alloc]; omega
  have HB := hide (bl_alloc (bl_refl w) (Obj.cells #[Value.bool false, Value.slice none 0 0, Value.bool false, Value.slice none 0 0] 42))
  go_enter Tryz.func78, Tryz.ntmps78
  go_wp2_with fail
  generalize (w.alloc (Obj.cells #[Value.bool false, Value.slice none 0 0, Value.bool false, Value.slice none 0 0] 42)) = w1 at *
  have z0 := zr
  refine (expS (R.extract 1 R.size) _ (by simp; omega)).mono ?_
  rw [HEXP'.out]
  rintro e w' ⟨rfl, hw⟩
  subst w'
  go_wp2_with fail
  refine (digitsS A _ HDA'.out hd4).mono ?_
  have hl1 : (lms (valN A.data.toList : Int)).length ≤ 200 := lms_short HDA'.out (by rw [bsize]; exact hd4)
  generalize valN A.data.toList = x at *
  rintro e w2 ⟨v1, rfl, ⟨a1, c1, rfl, ho1⟩, hb⟩
  have yw2 := hb.size
  replace kr0 := (hb.cell (p := ⟨w.heap.size, 0, none⟩) (by dsimp only; omega)).trans kr0
  replace fr0 := (hb.frozen (p := ⟨w.heap.size, 0, none⟩) (by dsimp only; omega)).trans fr0
  replace kr1 := (hb.cell (p := ⟨w.heap.size, 1, none⟩) (by dsimp only; omega)).trans kr1
  replace fr1 := (hb.frozen (p := ⟨w.heap.size, 1, none⟩) (by dsimp only; omega)).trans fr1
  replace kr2 := (hb.cell (p := ⟨w.heap.size, 2, none⟩) (by dsimp only; omega)).trans kr2
  replace fr2 := (hb.frozen (p := ⟨w.heap.size, 2, none⟩) (by dsimp only; omega)).trans fr2
  replace kr3 := (hb.cell (p := ⟨w.heap.size, 3, none⟩) (by dsimp only; omega)).trans kr3
  replace fr3 := (hb.frozen (p := ⟨w.heap.size, 3, none⟩) (by dsimp only; omega)).trans fr3
  replace zr := Nat.lt_of_lt_of_le zr hb.size
  replace HB := hide (bl_trans HB.out hb)
  clear hb
  have S1 := hide ho1.seg
  clear ho1
  go_wp2_with fail
  refine (tenS m _ hm).mono ?_
  have hl2 : (lms ((10 : Int) ^ m)).length ≤ 1001 := by have := ten_lenS (k := m) 1000 (by omega); rw [Int.natCast_pow] at this; exact this
  have HY : Hid ((10 : Int) ^ m = (((10 : Nat) ^ m : Nat) : Int)) := hide (Int.natCast_pow 10 m).symm
  have hy0 : (10 : Int) ^ m ≠ 0 := Int.pow_ne_zero (by decide)
  generalize (10 : Int) ^ m = y at *
  rintro e w3 ⟨v2, rfl, ⟨a2, c2, rfl, ho2⟩, hb⟩
  have yw3 := hb.size
  replace kr0 := (hb.cell (p := ⟨w.heap.size, 0, none⟩) (by dsimp only; omega)).trans kr0
  replace fr0 := (hb.frozen (p := ⟨w.heap.size, 0, none⟩) (by dsimp only; omega)).trans fr0
  replace kr1 := (hb.cell (p := ⟨w.heap.size, 1, none⟩) (by dsimp only; omega)).trans kr1
  replace fr1 := (hb.frozen (p := ⟨w.heap.size, 1, none⟩) (by dsimp only; omega)).trans fr1
  replace kr2 := (hb.cell (p := ⟨w.heap.size, 2, none⟩) (by dsimp only; omega)).trans kr2
  replace fr2 := (hb.frozen (p := ⟨w.heap.size, 2, none⟩) (by dsimp only; omega)).trans fr2
  replace kr3 := (hb.cell (p := ⟨w.heap.size, 3, none⟩) (by dsimp only; omega)).trans kr3
  replace fr3 := (hb.frozen (p := ⟨w.heap.size, 3, none⟩) (by dsimp only; omega)).trans fr3
  replace S1 := hide (S1.out.below hb)
  replace zr := Nat.lt_of_lt_of_le zr hb.size
  replace HB := hide (bl_trans HB.out hb)
  clear hb
  have S2 := hide ho2.seg
  clear ho2
  go_wp2_with fail
  refine (makeR x y a1 c1 a2 c2 _ S1.out S2.out hy0 (by omega) (by omega)).mono ?_
  rintro e w4 ⟨d1, f1, d2, f2, rfl, hu1, hu2, hap, hb⟩
  have yw4 := hb.size
  replace kr0 := (hb.cell (p := ⟨w.heap.size, 0, none⟩) (by dsimp only; omega)).trans kr0
  replace fr0 := (hb.frozen (p := ⟨w.heap.size, 0, none⟩) (by dsimp only; omega)).trans fr0
  replace kr1 := (hb.cell (p := ⟨w.heap.size, 1, none⟩) (by dsimp only; omega)).trans kr1
  replace fr1 := (hb.frozen (p := ⟨w.heap.size, 1, none⟩) (by dsimp only; omega)).trans fr1
  replace kr2 := (hb.cell (p := ⟨w.heap.size, 2, none⟩) (by dsimp only; omega)).trans kr2
  replace fr2 := (hb.frozen (p := ⟨w.heap.size, 2, none⟩) (by dsimp only; omega)).trans fr2
  replace kr3 := (hb.cell (p := ⟨w.heap.size, 3, none⟩) (by dsimp only; omega)).trans kr3
  replace fr3 := (hb.frozen (p := ⟨w.heap.size, 3, none⟩) (by dsimp only; omega)).trans fr3
  replace S1 := hide (S1.out.below hb)
  replace S2 := hide (S2.out.below hb)
  replace zr := Nat.lt_of_lt_of_le zr hb.size
  replace HB := hide (bl_trans HB.out hb)
  clear hb
  have HO1 := hide hu1
  have HO2 := hide hu2
  have HAP := hide hap
  clear hu1 hu2 hap
  go_wp2
  refine bodyPost_ret (v := (.tuple #[Value.agg #[Value.bool (sgn ((x : Int) / sgG (x : Int) y)), Value.slice d1 (lms ((x : Int) / sgG (x : Int) y)).length f1, Value.bool (sgn (y / sgG (x : Int) y)), Value.slice d2 (lms (y / sgG (x : Int) y)).length f2], .bool true])) (by simp [results, Tryz.results78, go_sem, kr0, kr1, kr2, kr3]) rfl ?_
  have h1 := own_four' (lo := w.heap.size) HO1.out (show w.heap.size < _ by omega) (by omega) (Value.bool (sgn ((x : Int) / sgG (x : Int) y))) (Value.slice d1 (lms ((x : Int) / sgG (x : Int) y)).length f1) (Value.bool (sgn (y / sgG (x : Int) y))) (Value.slice d2 (lms (y / sgG (x : Int) y)).length f2)
  have h2 := own_four' (lo := w.heap.size) HO2.out (show w.heap.size < _ by omega) (by omega) (Value.bool (sgn ((x : Int) / sgG (x : Int) y))) (Value.slice d1 (lms ((x : Int) / sgG (x : Int) y)).length f1) (Value.bool (sgn (y / sgG (x : Int) y))) (Value.slice d2 (lms (y / sgG (x : Int) y)).length f2)
  exact raw_yes HO'.out rfl HY.out h1 h2 HAP.out (set_four (Nat.le_refl _) HB.out _ _ _ _)

set_option maxHeartbeats 4000000 in
set_option maxRecDepth 20000 in
theorem decY3 (A R : ByteArray) (E m : Nat) (n : Int) (o : Option (Nat × Nat)) (w : World) (hsz : A.size + R.size ≤ 400) (hE0 : E ≤ R.size) (hn : -1000 < n ∧ n < 1000) (hq : R.toList.isEmpty = false) (hq0 : 0 < R.size) (hq1 : 0 < R.size) (h46 : ((R[0].toNat : Int) == 46) = false) (h101 : (R[0].toNat : Int) = 101) (hexp : expV (R.extract 1 R.size).data.toList = some n) (hda : digAll A.data.toList = true) (hd4 : A.size ≤ 400) (hm : m ≤ 2000) (hK : n = (m : Int)) (ho : o = some (valN A.data.toList * 10 ^ m, 1)) :
    Calls Tryz.prog 78 #[.string A, .string R] w fun e w' => RawAns o w w' e := by
  have HEXP' := hide hexp
  have HDA' := hide hda
  have HO' := hide ho
  clear hexp hda ho
  have hq2 : (1 : Int) ≤ ((R.size : Nat) : Int) := by omega
  have h101b : ((R[0].toNat : Int) != 101) = false := by rw [h101]; rfl
  have kr0 : (w.alloc (Obj.cells #[Value.bool false, Value.slice none 0 0, Value.bool false, Value.slice none 0 0] 42)).cell? ⟨w.heap.size, 0, none⟩ = some (Value.bool false) := by go_simp
  have fr0 : (w.alloc (Obj.cells #[Value.bool false, Value.slice none 0 0, Value.bool false, Value.slice none 0 0] 42)).frozen? ⟨w.heap.size, 0, none⟩ = false := by go_simp
  have kr1 : (w.alloc (Obj.cells #[Value.bool false, Value.slice none 0 0, Value.bool false, Value.slice none 0 0] 42)).cell? ⟨w.heap.size, 1, none⟩ = some (Value.slice none 0 0) := by go_simp
  have fr1 : (w.alloc (Obj.cells #[Value.bool false, Value.slice none 0 0, Value.bool false, Value.slice none 0 0] 42)).frozen? ⟨w.heap.size, 1, none⟩ = false := by go_simp
  have kr2 : (w.alloc (Obj.cells #[Value.bool false, Value.slice none 0 0, Value.bool false, Value.slice none 0 0] 42)).cell? ⟨w.heap.size, 2, none⟩ = some (Value.bool false) := by go_simp
  have fr2 : (w.alloc (Obj.cells #[Value.bool false, Value.slice none 0 0, Value.bool false, Value.slice none 0 0] 42)).frozen? ⟨w.heap.size, 2, none⟩ = false := by go_simp
  have kr3 : (w.alloc (Obj.cells #[Value.bool false, Value.slice none 0 0, Value.bool false, Value.slice none 0 0] 42)).cell? ⟨w.heap.size, 3, none⟩ = some (Value.slice none 0 0) := by go_simp
  have fr3 : (w.alloc (Obj.cells #[Value.bool false, Value.slice none 0 0, Value.bool false, Value.slice none 0 0] 42)).frozen? ⟨w.heap.size, 3, none⟩ = false := by go_simp
  have zr : w.heap.size < (w.alloc (Obj.cells #[Value.bool false, Value.slice none 0 0, Value.bool false, Value.slice none 0 0] 42)).heap.size := by simp only [World.size_alloc]; omega
  have HB := hide (bl_alloc (bl_refl w) (Obj.cells #[Value.bool false, Value.slice none 0 0, Value.bool false, Value.slice none 0 0] 42))
  go_enter Tryz.func78, Tryz.ntmps78
  go_wp2_with fail
  generalize (w.alloc (Obj.cells #[Value.bool false, Value.slice none 0 0, Value.bool false, Value.slice none 0 0] 42)) = w1 at *
  have z0 := zr
  refine (expS (R.extract 1 R.size) _ (by simp; omega)).mono ?_
  rw [HEXP'.out]
  rintro e w' ⟨rfl, hw⟩
  subst w'
  go_wp2_with fail
  refine (digitsS A _ HDA'.out hd4).mono ?_
  have hl1 : (lms (valN A.data.toList : Int)).length ≤ 200 := lms_short HDA'.out (by rw [bsize]; exact hd4)
  generalize valN A.data.toList = x at *
  rintro e w2 ⟨v1, rfl, ⟨a1, c1, rfl, ho1⟩, hb⟩
  have yw2 := hb.size
  replace kr0 := (hb.cell (p := ⟨w.heap.size, 0, none⟩) (by dsimp only; omega)).trans kr0
  replace fr0 := (hb.frozen (p := ⟨w.heap.size, 0, none⟩) (by dsimp only; omega)).trans fr0
  replace kr1 := (hb.cell (p := ⟨w.heap.size, 1, none⟩) (by dsimp only; omega)).trans kr1
  replace fr1 := (hb.frozen (p := ⟨w.heap.size, 1, none⟩) (by dsimp only; omega)).trans fr1
  replace kr2 := (hb.cell (p := ⟨w.heap.size, 2, none⟩) (by dsimp only; omega)).trans kr2
  replace fr2 := (hb.frozen (p := ⟨w.heap.size, 2, none⟩) (by dsimp only; omega)).trans fr2
  replace kr3 := (hb.cell (p := ⟨w.heap.size, 3, none⟩) (by dsimp only; omega)).trans kr3
  replace fr3 := (hb.frozen (p := ⟨w.heap.size, 3, none⟩) (by dsimp only; omega)).trans fr3
  replace zr := Nat.lt_of_lt_of_le zr hb.size
  replace HB := hide (bl_trans HB.out hb)
  clear hb
  have S1 := hide ho1.seg
  clear ho1
  go_wp2_with fail
  refine (tenS m _ hm).mono ?_
  have hl2 : (lms ((10 : Int) ^ m)).length ≤ 1001 := by have := ten_lenS (k := m) 1000 (by omega); rw [Int.natCast_pow] at this; exact this
  have HY : Hid ((10 : Int) ^ m = (((10 : Nat) ^ m : Nat) : Int)) := hide (Int.natCast_pow 10 m).symm
  have hy0 : (10 : Int) ^ m ≠ 0 := Int.pow_ne_zero (by decide)
  generalize (10 : Int) ^ m = y at *
  rintro e w3 ⟨v2, rfl, ⟨a2, c2, rfl, ho2⟩, hb⟩
  have yw3 := hb.size
  replace kr0 := (hb.cell (p := ⟨w.heap.size, 0, none⟩) (by dsimp only; omega)).trans kr0
  replace fr0 := (hb.frozen (p := ⟨w.heap.size, 0, none⟩) (by dsimp only; omega)).trans fr0
  replace kr1 := (hb.cell (p := ⟨w.heap.size, 1, none⟩) (by dsimp only; omega)).trans kr1
  replace fr1 := (hb.frozen (p := ⟨w.heap.size, 1, none⟩) (by dsimp only; omega)).trans fr1
  replace kr2 := (hb.cell (p := ⟨w.heap.size, 2, none⟩) (by dsimp only; omega)).trans kr2
  replace fr2 := (hb.frozen (p := ⟨w.heap.size, 2, none⟩) (by dsimp only; omega)).trans fr2
  replace kr3 := (hb.cell (p := ⟨w.heap.size, 3, none⟩) (by dsimp only; omega)).trans kr3
  replace fr3 := (hb.frozen (p := ⟨w.heap.size, 3, none⟩) (by dsimp only; omega)).trans fr3
  replace S1 := hide (S1.out.below hb)
  replace zr := Nat.lt_of_lt_of_le zr hb.size
  replace HB := hide (bl_trans HB.out hb)
  clear hb
  have S2 := hide ho2.seg
  clear ho2
  go_wp2_with fail
  refine (mulS (.agg #[.bool (sgn (x : Int)), .slice a1 (lms (x : Int)).length c1]) (.agg #[.bool (sgn y), .slice a2 (lms y).length c2]) x y _ ⟨a1, c1, rfl, S1.out⟩ ⟨a2, c2, rfl, S2.out⟩ (by omega) (by omega)).mono ?_
  have hl3 : (lms ((x : Int) * y)).length ≤ 1201 := len_mulI hl1 hl2
  have HP : Hid ((x : Int) * y = ((x * 10 ^ m : Nat) : Int)) := hide (by rw [HY.out, Int.natCast_mul])
  generalize (x : Int) * y = p at *
  rintro e w4 ⟨v3, rfl, ⟨a3, c3, rfl, ho3⟩, hb⟩
  have yw4 := hb.size
  replace kr0 := (hb.cell (p := ⟨w.heap.size, 0, none⟩) (by dsimp only; omega)).trans kr0
  replace fr0 := (hb.frozen (p := ⟨w.heap.size, 0, none⟩) (by dsimp only; omega)).trans fr0
  replace kr1 := (hb.cell (p := ⟨w.heap.size, 1, none⟩) (by dsimp only; omega)).trans kr1
  replace fr1 := (hb.frozen (p := ⟨w.heap.size, 1, none⟩) (by dsimp only; omega)).trans fr1
  replace kr2 := (hb.cell (p := ⟨w.heap.size, 2, none⟩) (by dsimp only; omega)).trans kr2
  replace fr2 := (hb.frozen (p := ⟨w.heap.size, 2, none⟩) (by dsimp only; omega)).trans fr2
  replace kr3 := (hb.cell (p := ⟨w.heap.size, 3, none⟩) (by dsimp only; omega)).trans kr3
  replace fr3 := (hb.frozen (p := ⟨w.heap.size, 3, none⟩) (by dsimp only; omega)).trans fr3
  replace S1 := hide (S1.out.below hb)
  replace S2 := hide (S2.out.below hb)
  replace zr := Nat.lt_of_lt_of_le zr hb.size
  replace HB := hide (bl_trans HB.out hb)
  clear hb
  have S3 := hide ho3.seg
  clear ho3
  go_wp2_with fail
  refine (fromS 1 _ (by decide) (by decide)).mono ?_
  rintro e w5 ⟨v4, rfl, ⟨a4, c4, rfl, ho4⟩, hb⟩
  have yw5 := hb.size
  replace kr0 := (hb.cell (p := ⟨w.heap.size, 0, none⟩) (by dsimp only; omega)).trans kr0
  replace fr0 := (hb.frozen (p := ⟨w.heap.size, 0, none⟩) (by dsimp only; omega)).trans fr0
  replace kr1 := (hb.cell (p := ⟨w.heap.size, 1, none⟩) (by dsimp only; omega)).trans kr1
  replace fr1 := (hb.frozen (p := ⟨w.heap.size, 1, none⟩) (by dsimp only; omega)).trans fr1
  replace kr2 := (hb.cell (p := ⟨w.heap.size, 2, none⟩) (by dsimp only; omega)).trans kr2
  replace fr2 := (hb.frozen (p := ⟨w.heap.size, 2, none⟩) (by dsimp only; omega)).trans fr2
  replace kr3 := (hb.cell (p := ⟨w.heap.size, 3, none⟩) (by dsimp only; omega)).trans kr3
  replace fr3 := (hb.frozen (p := ⟨w.heap.size, 3, none⟩) (by dsimp only; omega)).trans fr3
  replace S1 := hide (S1.out.below hb)
  replace S2 := hide (S2.out.below hb)
  replace S3 := hide (S3.out.below hb)
  replace zr := Nat.lt_of_lt_of_le zr hb.size
  replace HB := hide (bl_trans HB.out hb)
  clear hb
  have S4 := hide ho4.seg
  clear ho4
  go_wp2_with fail
  refine (makeR p 1 a3 c3 a4 c4 _ S3.out S4.out (by decide) (by omega) (Nat.le_trans (Num.limbs_len.2 (show (1 : Int).natAbs < 4294967296 ^ 1 by decide)) (by decide))).mono ?_
  rintro e w6 ⟨d1, f1, d2, f2, rfl, hu1, hu2, hap, hb⟩
  have yw6 := hb.size
  replace kr0 := (hb.cell (p := ⟨w.heap.size, 0, none⟩) (by dsimp only; omega)).trans kr0
  replace fr0 := (hb.frozen (p := ⟨w.heap.size, 0, none⟩) (by dsimp only; omega)).trans fr0
  replace kr1 := (hb.cell (p := ⟨w.heap.size, 1, none⟩) (by dsimp only; omega)).trans kr1
  replace fr1 := (hb.frozen (p := ⟨w.heap.size, 1, none⟩) (by dsimp only; omega)).trans fr1
  replace kr2 := (hb.cell (p := ⟨w.heap.size, 2, none⟩) (by dsimp only; omega)).trans kr2
  replace fr2 := (hb.frozen (p := ⟨w.heap.size, 2, none⟩) (by dsimp only; omega)).trans fr2
  replace kr3 := (hb.cell (p := ⟨w.heap.size, 3, none⟩) (by dsimp only; omega)).trans kr3
  replace fr3 := (hb.frozen (p := ⟨w.heap.size, 3, none⟩) (by dsimp only; omega)).trans fr3
  replace S1 := hide (S1.out.below hb)
  replace S2 := hide (S2.out.below hb)
  replace S3 := hide (S3.out.below hb)
  replace S4 := hide (S4.out.below hb)
  replace zr := Nat.lt_of_lt_of_le zr hb.size
  replace HB := hide (bl_trans HB.out hb)
  clear hb
  have HO1 := hide hu1
  have HO2 := hide hu2
  have HAP := hide hap
  clear hu1 hu2 hap
  go_wp2
  refine bodyPost_ret (v := (.tuple #[Value.agg #[Value.bool (sgn (p / sgG p 1)), Value.slice d1 (lms (p / sgG p 1)).length f1, Value.bool (sgn (1 / sgG p 1)), Value.slice d2 (lms (1 / sgG p 1)).length f2], .bool true])) (by simp [results, Tryz.results78, go_sem, kr0, kr1, kr2, kr3]) rfl ?_
  have h1 := own_four' (lo := w.heap.size) HO1.out (show w.heap.size < _ by omega) (by omega) (Value.bool (sgn (p / sgG p 1))) (Value.slice d1 (lms (p / sgG p 1)).length f1) (Value.bool (sgn (1 / sgG p 1))) (Value.slice d2 (lms (1 / sgG p 1)).length f2)
  have h2 := own_four' (lo := w.heap.size) HO2.out (show w.heap.size < _ by omega) (by omega) (Value.bool (sgn (p / sgG p 1))) (Value.slice d1 (lms (p / sgG p 1)).length f1) (Value.bool (sgn (1 / sgG p 1))) (Value.slice d2 (lms (1 / sgG p 1)).length f2)
  exact raw_yes HO'.out HP.out rfl h1 h2 HAP.out (set_four (Nat.le_refl _) HB.out _ _ _ _)
end Go.Proofs.YtkemplmhemnpbaaGreatDoor

/- Walks of l03Decimal at numbers with a point. -/
namespace Go.Proofs.YtkemplmhemnpbaaGreatDoor
open Go.RowKit
set_option linter.unusedVariables false

set_option maxHeartbeats 4000000 in
set_option maxRecDepth 20000 in
theorem decY4 (A R : ByteArray) (E m : Nat) (n : Int) (o : Option (Nat × Nat)) (w : World) (hsz : A.size + R.size ≤ 400) (hE0 : E ≤ R.size) (hn : -1000 < n ∧ n < 1000) (hR : R.toList.isEmpty = false) (hr0 : 0 < R.size) (h46 : (R[0].toNat : Int) = 46) (hE : runN R 1 = E) (hE1 : 1 < E) (hq : (R.extract E R.size).toList.isEmpty = true) (hda : digAll (A ++ R.extract 1 E).data.toList = true) (hd4 : (A ++ R.extract 1 E).size ≤ 400) (hm : m ≤ 2000) (hm0 : 0 < m) (hK : 1 - (E : Int) = -(m : Int)) (ho : o = some (valN (A ++ R.extract 1 E).data.toList, 10 ^ m)) :
    Calls Tryz.prog 78 #[.string A, .string R] w fun e w' => RawAns o w w' e := by
  have HE' := hide hE
  have HDA' := hide hda
  have HO' := hide ho
  clear hE hda ho
  have hE1' : ¬ (E : Int) = 1 := by omega
  have hE1b : ((E : Int) == 1) = false := by rw [beq_eq_false_iff_ne]; omega
  have hE2' : (1 : Int) ≤ (E : Int) := by omega
  have hE3' : (E : Int) ≤ (R.size : Int) := by omega
  have kr0 : (w.alloc (Obj.cells #[Value.bool false, Value.slice none 0 0, Value.bool false, Value.slice none 0 0] 42)).cell? ⟨w.heap.size, 0, none⟩ = some (Value.bool false) := by go_simp
  have fr0 : (w.alloc (Obj.cells #[Value.bool false, Value.slice none 0 0, Value.bool false, Value.slice none 0 0] 42)).frozen? ⟨w.heap.size, 0, none⟩ = false := by go_simp
  have kr1 : (w.alloc (Obj.cells #[Value.bool false, Value.slice none 0 0, Value.bool false, Value.slice none 0 0] 42)).cell? ⟨w.heap.size, 1, none⟩ = some (Value.slice none 0 0) := by go_simp
  have fr1 : (w.alloc (Obj.cells #[Value.bool false, Value.slice none 0 0, Value.bool false, Value.slice none 0 0] 42)).frozen? ⟨w.heap.size, 1, none⟩ = false := by go_simp
  have kr2 : (w.alloc (Obj.cells #[Value.bool false, Value.slice none 0 0, Value.bool false, Value.slice none 0 0] 42)).cell? ⟨w.heap.size, 2, none⟩ = some (Value.bool false) := by go_simp
  have fr2 : (w.alloc (Obj.cells #[Value.bool false, Value.slice none 0 0, Value.bool false, Value.slice none 0 0] 42)).frozen? ⟨w.heap.size, 2, none⟩ = false := by go_simp
  have kr3 : (w.alloc (Obj.cells #[Value.bool false, Value.slice none 0 0, Value.bool false, Value.slice none 0 0] 42)).cell? ⟨w.heap.size, 3, none⟩ = some (Value.slice none 0 0) := by go_simp
  have fr3 : (w.alloc (Obj.cells #[Value.bool false, Value.slice none 0 0, Value.bool false, Value.slice none 0 0] 42)).frozen? ⟨w.heap.size, 3, none⟩ = false := by go_simp
  have zr : w.heap.size < (w.alloc (Obj.cells #[Value.bool false, Value.slice none 0 0, Value.bool false, Value.slice none 0 0] 42)).heap.size := by simp only [World.size_alloc]; omega
  have HB := hide (bl_alloc (bl_refl w) (Obj.cells #[Value.bool false, Value.slice none 0 0, Value.bool false, Value.slice none 0 0] 42))
  go_enter Tryz.func78, Tryz.ntmps78
  go_wp2_with fail
  generalize (w.alloc (Obj.cells #[Value.bool false, Value.slice none 0 0, Value.bool false, Value.slice none 0 0] 42)) = w1 at *
  have z0 := zr
  refine (runS R 1 _ (by omega) (by omega)).mono ?_
  rw [HE'.out]
  rintro e w' ⟨rfl, hw⟩
  subst w'
  go_wp2_with fail
  refine (digitsS (A ++ R.extract 1 E) _ HDA'.out hd4).mono ?_
  have hl1 : (lms (valN (A ++ R.extract 1 E).data.toList : Int)).length ≤ 200 := lms_short HDA'.out (by rw [bsize]; exact hd4)
  generalize valN (A ++ R.extract 1 E).data.toList = x at *
  rintro e w2 ⟨v1, rfl, ⟨a1, c1, rfl, ho1⟩, hb⟩
  have yw2 := hb.size
  replace kr0 := (hb.cell (p := ⟨w.heap.size, 0, none⟩) (by dsimp only; omega)).trans kr0
  replace fr0 := (hb.frozen (p := ⟨w.heap.size, 0, none⟩) (by dsimp only; omega)).trans fr0
  replace kr1 := (hb.cell (p := ⟨w.heap.size, 1, none⟩) (by dsimp only; omega)).trans kr1
  replace fr1 := (hb.frozen (p := ⟨w.heap.size, 1, none⟩) (by dsimp only; omega)).trans fr1
  replace kr2 := (hb.cell (p := ⟨w.heap.size, 2, none⟩) (by dsimp only; omega)).trans kr2
  replace fr2 := (hb.frozen (p := ⟨w.heap.size, 2, none⟩) (by dsimp only; omega)).trans fr2
  replace kr3 := (hb.cell (p := ⟨w.heap.size, 3, none⟩) (by dsimp only; omega)).trans kr3
  replace fr3 := (hb.frozen (p := ⟨w.heap.size, 3, none⟩) (by dsimp only; omega)).trans fr3
  replace zr := Nat.lt_of_lt_of_le zr hb.size
  replace HB := hide (bl_trans HB.out hb)
  clear hb
  have S1 := hide ho1.seg
  clear ho1
  go_wp2_with fail
  refine (tenS m _ hm).mono ?_
  have hl2 : (lms ((10 : Int) ^ m)).length ≤ 1001 := by have := ten_lenS (k := m) 1000 (by omega); rw [Int.natCast_pow] at this; exact this
  have HY : Hid ((10 : Int) ^ m = (((10 : Nat) ^ m : Nat) : Int)) := hide (Int.natCast_pow 10 m).symm
  have hy0 : (10 : Int) ^ m ≠ 0 := Int.pow_ne_zero (by decide)
  generalize (10 : Int) ^ m = y at *
  rintro e w3 ⟨v2, rfl, ⟨a2, c2, rfl, ho2⟩, hb⟩
  have yw3 := hb.size
  replace kr0 := (hb.cell (p := ⟨w.heap.size, 0, none⟩) (by dsimp only; omega)).trans kr0
  replace fr0 := (hb.frozen (p := ⟨w.heap.size, 0, none⟩) (by dsimp only; omega)).trans fr0
  replace kr1 := (hb.cell (p := ⟨w.heap.size, 1, none⟩) (by dsimp only; omega)).trans kr1
  replace fr1 := (hb.frozen (p := ⟨w.heap.size, 1, none⟩) (by dsimp only; omega)).trans fr1
  replace kr2 := (hb.cell (p := ⟨w.heap.size, 2, none⟩) (by dsimp only; omega)).trans kr2
  replace fr2 := (hb.frozen (p := ⟨w.heap.size, 2, none⟩) (by dsimp only; omega)).trans fr2
  replace kr3 := (hb.cell (p := ⟨w.heap.size, 3, none⟩) (by dsimp only; omega)).trans kr3
  replace fr3 := (hb.frozen (p := ⟨w.heap.size, 3, none⟩) (by dsimp only; omega)).trans fr3
  replace S1 := hide (S1.out.below hb)
  replace zr := Nat.lt_of_lt_of_le zr hb.size
  replace HB := hide (bl_trans HB.out hb)
  clear hb
  have S2 := hide ho2.seg
  clear ho2
  go_wp2_with fail
  refine (makeR x y a1 c1 a2 c2 _ S1.out S2.out hy0 (by omega) (by omega)).mono ?_
  rintro e w4 ⟨d1, f1, d2, f2, rfl, hu1, hu2, hap, hb⟩
  have yw4 := hb.size
  replace kr0 := (hb.cell (p := ⟨w.heap.size, 0, none⟩) (by dsimp only; omega)).trans kr0
  replace fr0 := (hb.frozen (p := ⟨w.heap.size, 0, none⟩) (by dsimp only; omega)).trans fr0
  replace kr1 := (hb.cell (p := ⟨w.heap.size, 1, none⟩) (by dsimp only; omega)).trans kr1
  replace fr1 := (hb.frozen (p := ⟨w.heap.size, 1, none⟩) (by dsimp only; omega)).trans fr1
  replace kr2 := (hb.cell (p := ⟨w.heap.size, 2, none⟩) (by dsimp only; omega)).trans kr2
  replace fr2 := (hb.frozen (p := ⟨w.heap.size, 2, none⟩) (by dsimp only; omega)).trans fr2
  replace kr3 := (hb.cell (p := ⟨w.heap.size, 3, none⟩) (by dsimp only; omega)).trans kr3
  replace fr3 := (hb.frozen (p := ⟨w.heap.size, 3, none⟩) (by dsimp only; omega)).trans fr3
  replace S1 := hide (S1.out.below hb)
  replace S2 := hide (S2.out.below hb)
  replace zr := Nat.lt_of_lt_of_le zr hb.size
  replace HB := hide (bl_trans HB.out hb)
  clear hb
  have HO1 := hide hu1
  have HO2 := hide hu2
  have HAP := hide hap
  clear hu1 hu2 hap
  go_wp2
  refine bodyPost_ret (v := (.tuple #[Value.agg #[Value.bool (sgn ((x : Int) / sgG (x : Int) y)), Value.slice d1 (lms ((x : Int) / sgG (x : Int) y)).length f1, Value.bool (sgn (y / sgG (x : Int) y)), Value.slice d2 (lms (y / sgG (x : Int) y)).length f2], .bool true])) (by simp [results, Tryz.results78, go_sem, kr0, kr1, kr2, kr3]) rfl ?_
  have h1 := own_four' (lo := w.heap.size) HO1.out (show w.heap.size < _ by omega) (by omega) (Value.bool (sgn ((x : Int) / sgG (x : Int) y))) (Value.slice d1 (lms ((x : Int) / sgG (x : Int) y)).length f1) (Value.bool (sgn (y / sgG (x : Int) y))) (Value.slice d2 (lms (y / sgG (x : Int) y)).length f2)
  have h2 := own_four' (lo := w.heap.size) HO2.out (show w.heap.size < _ by omega) (by omega) (Value.bool (sgn ((x : Int) / sgG (x : Int) y))) (Value.slice d1 (lms ((x : Int) / sgG (x : Int) y)).length f1) (Value.bool (sgn (y / sgG (x : Int) y))) (Value.slice d2 (lms (y / sgG (x : Int) y)).length f2)
  exact raw_yes HO'.out rfl HY.out h1 h2 HAP.out (set_four (Nat.le_refl _) HB.out _ _ _ _)

set_option maxHeartbeats 4000000 in
set_option maxRecDepth 20000 in
theorem decY5 (A R : ByteArray) (E m : Nat) (n : Int) (o : Option (Nat × Nat)) (w : World) (hsz : A.size + R.size ≤ 400) (hE0 : E ≤ R.size) (hn : -1000 < n ∧ n < 1000) (hR : R.toList.isEmpty = false) (hr0 : 0 < R.size) (h46 : (R[0].toNat : Int) = 46) (hE : runN R 1 = E) (hE1 : 1 < E) (hq : (R.extract E R.size).toList.isEmpty = false) (hq0 : 0 < (R.extract E R.size).size) (hq1 : 0 < (R.size - E)) (h101 : ((R.extract E R.size)[0].toNat : Int) = 101) (hexp : expV ((R.extract E R.size).extract 1 (R.size - E)).data.toList = some n) (hda : digAll (A ++ R.extract 1 E).data.toList = true) (hd4 : (A ++ R.extract 1 E).size ≤ 400) (hm : m ≤ 2000) (hm0 : 0 < m) (hK : 1 - (E : Int) + n = -(m : Int)) (ho : o = some (valN (A ++ R.extract 1 E).data.toList, 10 ^ m)) :
    Calls Tryz.prog 78 #[.string A, .string R] w fun e w' => RawAns o w w' e := by
  have HE' := hide hE
  have HEXP' := hide hexp
  have HDA' := hide hda
  have HO' := hide ho
  clear hE hexp hda ho
  have hE1' : ¬ (E : Int) = 1 := by omega
  have hE1b : ((E : Int) == 1) = false := by rw [beq_eq_false_iff_ne]; omega
  have hE2' : (1 : Int) ≤ (E : Int) := by omega
  have hE3' : (E : Int) ≤ (R.size : Int) := by omega
  have hq2 : (1 : Int) ≤ (((R.size - E) : Nat) : Int) := by omega
  have h101b : (((R.extract E R.size)[0].toNat : Int) != 101) = false := by rw [h101]; rfl
  have kr0 : (w.alloc (Obj.cells #[Value.bool false, Value.slice none 0 0, Value.bool false, Value.slice none 0 0] 42)).cell? ⟨w.heap.size, 0, none⟩ = some (Value.bool false) := by go_simp
  have fr0 : (w.alloc (Obj.cells #[Value.bool false, Value.slice none 0 0, Value.bool false, Value.slice none 0 0] 42)).frozen? ⟨w.heap.size, 0, none⟩ = false := by go_simp
  have kr1 : (w.alloc (Obj.cells #[Value.bool false, Value.slice none 0 0, Value.bool false, Value.slice none 0 0] 42)).cell? ⟨w.heap.size, 1, none⟩ = some (Value.slice none 0 0) := by go_simp
  have fr1 : (w.alloc (Obj.cells #[Value.bool false, Value.slice none 0 0, Value.bool false, Value.slice none 0 0] 42)).frozen? ⟨w.heap.size, 1, none⟩ = false := by go_simp
  have kr2 : (w.alloc (Obj.cells #[Value.bool false, Value.slice none 0 0, Value.bool false, Value.slice none 0 0] 42)).cell? ⟨w.heap.size, 2, none⟩ = some (Value.bool false) := by go_simp
  have fr2 : (w.alloc (Obj.cells #[Value.bool false, Value.slice none 0 0, Value.bool false, Value.slice none 0 0] 42)).frozen? ⟨w.heap.size, 2, none⟩ = false := by go_simp
  have kr3 : (w.alloc (Obj.cells #[Value.bool false, Value.slice none 0 0, Value.bool false, Value.slice none 0 0] 42)).cell? ⟨w.heap.size, 3, none⟩ = some (Value.slice none 0 0) := by go_simp
  have fr3 : (w.alloc (Obj.cells #[Value.bool false, Value.slice none 0 0, Value.bool false, Value.slice none 0 0] 42)).frozen? ⟨w.heap.size, 3, none⟩ = false := by go_simp
  have zr : w.heap.size < (w.alloc (Obj.cells #[Value.bool false, Value.slice none 0 0, Value.bool false, Value.slice none 0 0] 42)).heap.size := by simp only [World.size_alloc]; omega
  have HB := hide (bl_alloc (bl_refl w) (Obj.cells #[Value.bool false, Value.slice none 0 0, Value.bool false, Value.slice none 0 0] 42))
  go_enter Tryz.func78, Tryz.ntmps78
  go_wp2_with fail
  generalize (w.alloc (Obj.cells #[Value.bool false, Value.slice none 0 0, Value.bool false, Value.slice none 0 0] 42)) = w1 at *
  have z0 := zr
  refine (runS R 1 _ (by omega) (by omega)).mono ?_
  rw [HE'.out]
  rintro e w' ⟨rfl, hw⟩
  subst w'
  go_wp2_with fail
  refine (expS ((R.extract E R.size).extract 1 (R.size - E)) _ (by simp; omega)).mono ?_
  rw [HEXP'.out]
  rintro e w' ⟨rfl, hw⟩
  subst w'
  go_wp2_with fail
  refine (digitsS (A ++ R.extract 1 E) _ HDA'.out hd4).mono ?_
  have hl1 : (lms (valN (A ++ R.extract 1 E).data.toList : Int)).length ≤ 200 := lms_short HDA'.out (by rw [bsize]; exact hd4)
  generalize valN (A ++ R.extract 1 E).data.toList = x at *
  rintro e w2 ⟨v1, rfl, ⟨a1, c1, rfl, ho1⟩, hb⟩
  have yw2 := hb.size
  replace kr0 := (hb.cell (p := ⟨w.heap.size, 0, none⟩) (by dsimp only; omega)).trans kr0
  replace fr0 := (hb.frozen (p := ⟨w.heap.size, 0, none⟩) (by dsimp only; omega)).trans fr0
  replace kr1 := (hb.cell (p := ⟨w.heap.size, 1, none⟩) (by dsimp only; omega)).trans kr1
  replace fr1 := (hb.frozen (p := ⟨w.heap.size, 1, none⟩) (by dsimp only; omega)).trans fr1
  replace kr2 := (hb.cell (p := ⟨w.heap.size, 2, none⟩) (by dsimp only; omega)).trans kr2
  replace fr2 := (hb.frozen (p := ⟨w.heap.size, 2, none⟩) (by dsimp only; omega)).trans fr2
  replace kr3 := (hb.cell (p := ⟨w.heap.size, 3, none⟩) (by dsimp only; omega)).trans kr3
  replace fr3 := (hb.frozen (p := ⟨w.heap.size, 3, none⟩) (by dsimp only; omega)).trans fr3
  replace zr := Nat.lt_of_lt_of_le zr hb.size
  replace HB := hide (bl_trans HB.out hb)
  clear hb
  have S1 := hide ho1.seg
  clear ho1
  go_wp2_with fail
  refine (tenS m _ hm).mono ?_
  have hl2 : (lms ((10 : Int) ^ m)).length ≤ 1001 := by have := ten_lenS (k := m) 1000 (by omega); rw [Int.natCast_pow] at this; exact this
  have HY : Hid ((10 : Int) ^ m = (((10 : Nat) ^ m : Nat) : Int)) := hide (Int.natCast_pow 10 m).symm
  have hy0 : (10 : Int) ^ m ≠ 0 := Int.pow_ne_zero (by decide)
  generalize (10 : Int) ^ m = y at *
  rintro e w3 ⟨v2, rfl, ⟨a2, c2, rfl, ho2⟩, hb⟩
  have yw3 := hb.size
  replace kr0 := (hb.cell (p := ⟨w.heap.size, 0, none⟩) (by dsimp only; omega)).trans kr0
  replace fr0 := (hb.frozen (p := ⟨w.heap.size, 0, none⟩) (by dsimp only; omega)).trans fr0
  replace kr1 := (hb.cell (p := ⟨w.heap.size, 1, none⟩) (by dsimp only; omega)).trans kr1
  replace fr1 := (hb.frozen (p := ⟨w.heap.size, 1, none⟩) (by dsimp only; omega)).trans fr1
  replace kr2 := (hb.cell (p := ⟨w.heap.size, 2, none⟩) (by dsimp only; omega)).trans kr2
  replace fr2 := (hb.frozen (p := ⟨w.heap.size, 2, none⟩) (by dsimp only; omega)).trans fr2
  replace kr3 := (hb.cell (p := ⟨w.heap.size, 3, none⟩) (by dsimp only; omega)).trans kr3
  replace fr3 := (hb.frozen (p := ⟨w.heap.size, 3, none⟩) (by dsimp only; omega)).trans fr3
  replace S1 := hide (S1.out.below hb)
  replace zr := Nat.lt_of_lt_of_le zr hb.size
  replace HB := hide (bl_trans HB.out hb)
  clear hb
  have S2 := hide ho2.seg
  clear ho2
  go_wp2_with fail
  refine (makeR x y a1 c1 a2 c2 _ S1.out S2.out hy0 (by omega) (by omega)).mono ?_
  rintro e w4 ⟨d1, f1, d2, f2, rfl, hu1, hu2, hap, hb⟩
  have yw4 := hb.size
  replace kr0 := (hb.cell (p := ⟨w.heap.size, 0, none⟩) (by dsimp only; omega)).trans kr0
  replace fr0 := (hb.frozen (p := ⟨w.heap.size, 0, none⟩) (by dsimp only; omega)).trans fr0
  replace kr1 := (hb.cell (p := ⟨w.heap.size, 1, none⟩) (by dsimp only; omega)).trans kr1
  replace fr1 := (hb.frozen (p := ⟨w.heap.size, 1, none⟩) (by dsimp only; omega)).trans fr1
  replace kr2 := (hb.cell (p := ⟨w.heap.size, 2, none⟩) (by dsimp only; omega)).trans kr2
  replace fr2 := (hb.frozen (p := ⟨w.heap.size, 2, none⟩) (by dsimp only; omega)).trans fr2
  replace kr3 := (hb.cell (p := ⟨w.heap.size, 3, none⟩) (by dsimp only; omega)).trans kr3
  replace fr3 := (hb.frozen (p := ⟨w.heap.size, 3, none⟩) (by dsimp only; omega)).trans fr3
  replace S1 := hide (S1.out.below hb)
  replace S2 := hide (S2.out.below hb)
  replace zr := Nat.lt_of_lt_of_le zr hb.size
  replace HB := hide (bl_trans HB.out hb)
  clear hb
  have HO1 := hide hu1
  have HO2 := hide hu2
  have HAP := hide hap
  clear hu1 hu2 hap
  go_wp2
  refine bodyPost_ret (v := (.tuple #[Value.agg #[Value.bool (sgn ((x : Int) / sgG (x : Int) y)), Value.slice d1 (lms ((x : Int) / sgG (x : Int) y)).length f1, Value.bool (sgn (y / sgG (x : Int) y)), Value.slice d2 (lms (y / sgG (x : Int) y)).length f2], .bool true])) (by simp [results, Tryz.results78, go_sem, kr0, kr1, kr2, kr3]) rfl ?_
  have h1 := own_four' (lo := w.heap.size) HO1.out (show w.heap.size < _ by omega) (by omega) (Value.bool (sgn ((x : Int) / sgG (x : Int) y))) (Value.slice d1 (lms ((x : Int) / sgG (x : Int) y)).length f1) (Value.bool (sgn (y / sgG (x : Int) y))) (Value.slice d2 (lms (y / sgG (x : Int) y)).length f2)
  have h2 := own_four' (lo := w.heap.size) HO2.out (show w.heap.size < _ by omega) (by omega) (Value.bool (sgn ((x : Int) / sgG (x : Int) y))) (Value.slice d1 (lms ((x : Int) / sgG (x : Int) y)).length f1) (Value.bool (sgn (y / sgG (x : Int) y))) (Value.slice d2 (lms (y / sgG (x : Int) y)).length f2)
  exact raw_yes HO'.out rfl HY.out h1 h2 HAP.out (set_four (Nat.le_refl _) HB.out _ _ _ _)

set_option maxHeartbeats 4000000 in
set_option maxRecDepth 20000 in
theorem decY6 (A R : ByteArray) (E m : Nat) (n : Int) (o : Option (Nat × Nat)) (w : World) (hsz : A.size + R.size ≤ 400) (hE0 : E ≤ R.size) (hn : -1000 < n ∧ n < 1000) (hR : R.toList.isEmpty = false) (hr0 : 0 < R.size) (h46 : (R[0].toNat : Int) = 46) (hE : runN R 1 = E) (hE1 : 1 < E) (hq : (R.extract E R.size).toList.isEmpty = false) (hq0 : 0 < (R.extract E R.size).size) (hq1 : 0 < (R.size - E)) (h101 : ((R.extract E R.size)[0].toNat : Int) = 101) (hexp : expV ((R.extract E R.size).extract 1 (R.size - E)).data.toList = some n) (hda : digAll (A ++ R.extract 1 E).data.toList = true) (hd4 : (A ++ R.extract 1 E).size ≤ 400) (hm : m ≤ 2000) (hK : 1 - (E : Int) + n = (m : Int)) (ho : o = some (valN (A ++ R.extract 1 E).data.toList * 10 ^ m, 1)) :
    Calls Tryz.prog 78 #[.string A, .string R] w fun e w' => RawAns o w w' e := by
  have HE' := hide hE
  have HEXP' := hide hexp
  have HDA' := hide hda
  have HO' := hide ho
  clear hE hexp hda ho
  have hE1' : ¬ (E : Int) = 1 := by omega
  have hE1b : ((E : Int) == 1) = false := by rw [beq_eq_false_iff_ne]; omega
  have hE2' : (1 : Int) ≤ (E : Int) := by omega
  have hE3' : (E : Int) ≤ (R.size : Int) := by omega
  have hq2 : (1 : Int) ≤ (((R.size - E) : Nat) : Int) := by omega
  have h101b : (((R.extract E R.size)[0].toNat : Int) != 101) = false := by rw [h101]; rfl
  have kr0 : (w.alloc (Obj.cells #[Value.bool false, Value.slice none 0 0, Value.bool false, Value.slice none 0 0] 42)).cell? ⟨w.heap.size, 0, none⟩ = some (Value.bool false) := by go_simp
  have fr0 : (w.alloc (Obj.cells #[Value.bool false, Value.slice none 0 0, Value.bool false, Value.slice none 0 0] 42)).frozen? ⟨w.heap.size, 0, none⟩ = false := by go_simp
  have kr1 : (w.alloc (Obj.cells #[Value.bool false, Value.slice none 0 0, Value.bool false, Value.slice none 0 0] 42)).cell? ⟨w.heap.size, 1, none⟩ = some (Value.slice none 0 0) := by go_simp
  have fr1 : (w.alloc (Obj.cells #[Value.bool false, Value.slice none 0 0, Value.bool false, Value.slice none 0 0] 42)).frozen? ⟨w.heap.size, 1, none⟩ = false := by go_simp
  have kr2 : (w.alloc (Obj.cells #[Value.bool false, Value.slice none 0 0, Value.bool false, Value.slice none 0 0] 42)).cell? ⟨w.heap.size, 2, none⟩ = some (Value.bool false) := by go_simp
  have fr2 : (w.alloc (Obj.cells #[Value.bool false, Value.slice none 0 0, Value.bool false, Value.slice none 0 0] 42)).frozen? ⟨w.heap.size, 2, none⟩ = false := by go_simp
  have kr3 : (w.alloc (Obj.cells #[Value.bool false, Value.slice none 0 0, Value.bool false, Value.slice none 0 0] 42)).cell? ⟨w.heap.size, 3, none⟩ = some (Value.slice none 0 0) := by go_simp
  have fr3 : (w.alloc (Obj.cells #[Value.bool false, Value.slice none 0 0, Value.bool false, Value.slice none 0 0] 42)).frozen? ⟨w.heap.size, 3, none⟩ = false := by go_simp
  have zr : w.heap.size < (w.alloc (Obj.cells #[Value.bool false, Value.slice none 0 0, Value.bool false, Value.slice none 0 0] 42)).heap.size := by simp only [World.size_alloc]; omega
  have HB := hide (bl_alloc (bl_refl w) (Obj.cells #[Value.bool false, Value.slice none 0 0, Value.bool false, Value.slice none 0 0] 42))
  go_enter Tryz.func78, Tryz.ntmps78
  go_wp2_with fail
  generalize (w.alloc (Obj.cells #[Value.bool false, Value.slice none 0 0, Value.bool false, Value.slice none 0 0] 42)) = w1 at *
  have z0 := zr
  refine (runS R 1 _ (by omega) (by omega)).mono ?_
  rw [HE'.out]
  rintro e w' ⟨rfl, hw⟩
  subst w'
  go_wp2_with fail
  refine (expS ((R.extract E R.size).extract 1 (R.size - E)) _ (by simp; omega)).mono ?_
  rw [HEXP'.out]
  rintro e w' ⟨rfl, hw⟩
  subst w'
  go_wp2_with fail
  refine (digitsS (A ++ R.extract 1 E) _ HDA'.out hd4).mono ?_
  have hl1 : (lms (valN (A ++ R.extract 1 E).data.toList : Int)).length ≤ 200 := lms_short HDA'.out (by rw [bsize]; exact hd4)
  generalize valN (A ++ R.extract 1 E).data.toList = x at *
  rintro e w2 ⟨v1, rfl, ⟨a1, c1, rfl, ho1⟩, hb⟩
  have yw2 := hb.size
  replace kr0 := (hb.cell (p := ⟨w.heap.size, 0, none⟩) (by dsimp only; omega)).trans kr0
  replace fr0 := (hb.frozen (p := ⟨w.heap.size, 0, none⟩) (by dsimp only; omega)).trans fr0
  replace kr1 := (hb.cell (p := ⟨w.heap.size, 1, none⟩) (by dsimp only; omega)).trans kr1
  replace fr1 := (hb.frozen (p := ⟨w.heap.size, 1, none⟩) (by dsimp only; omega)).trans fr1
  replace kr2 := (hb.cell (p := ⟨w.heap.size, 2, none⟩) (by dsimp only; omega)).trans kr2
  replace fr2 := (hb.frozen (p := ⟨w.heap.size, 2, none⟩) (by dsimp only; omega)).trans fr2
  replace kr3 := (hb.cell (p := ⟨w.heap.size, 3, none⟩) (by dsimp only; omega)).trans kr3
  replace fr3 := (hb.frozen (p := ⟨w.heap.size, 3, none⟩) (by dsimp only; omega)).trans fr3
  replace zr := Nat.lt_of_lt_of_le zr hb.size
  replace HB := hide (bl_trans HB.out hb)
  clear hb
  have S1 := hide ho1.seg
  clear ho1
  go_wp2_with fail
  refine (tenS m _ hm).mono ?_
  have hl2 : (lms ((10 : Int) ^ m)).length ≤ 1001 := by have := ten_lenS (k := m) 1000 (by omega); rw [Int.natCast_pow] at this; exact this
  have HY : Hid ((10 : Int) ^ m = (((10 : Nat) ^ m : Nat) : Int)) := hide (Int.natCast_pow 10 m).symm
  have hy0 : (10 : Int) ^ m ≠ 0 := Int.pow_ne_zero (by decide)
  generalize (10 : Int) ^ m = y at *
  rintro e w3 ⟨v2, rfl, ⟨a2, c2, rfl, ho2⟩, hb⟩
  have yw3 := hb.size
  replace kr0 := (hb.cell (p := ⟨w.heap.size, 0, none⟩) (by dsimp only; omega)).trans kr0
  replace fr0 := (hb.frozen (p := ⟨w.heap.size, 0, none⟩) (by dsimp only; omega)).trans fr0
  replace kr1 := (hb.cell (p := ⟨w.heap.size, 1, none⟩) (by dsimp only; omega)).trans kr1
  replace fr1 := (hb.frozen (p := ⟨w.heap.size, 1, none⟩) (by dsimp only; omega)).trans fr1
  replace kr2 := (hb.cell (p := ⟨w.heap.size, 2, none⟩) (by dsimp only; omega)).trans kr2
  replace fr2 := (hb.frozen (p := ⟨w.heap.size, 2, none⟩) (by dsimp only; omega)).trans fr2
  replace kr3 := (hb.cell (p := ⟨w.heap.size, 3, none⟩) (by dsimp only; omega)).trans kr3
  replace fr3 := (hb.frozen (p := ⟨w.heap.size, 3, none⟩) (by dsimp only; omega)).trans fr3
  replace S1 := hide (S1.out.below hb)
  replace zr := Nat.lt_of_lt_of_le zr hb.size
  replace HB := hide (bl_trans HB.out hb)
  clear hb
  have S2 := hide ho2.seg
  clear ho2
  go_wp2_with fail
  refine (mulS (.agg #[.bool (sgn (x : Int)), .slice a1 (lms (x : Int)).length c1]) (.agg #[.bool (sgn y), .slice a2 (lms y).length c2]) x y _ ⟨a1, c1, rfl, S1.out⟩ ⟨a2, c2, rfl, S2.out⟩ (by omega) (by omega)).mono ?_
  have hl3 : (lms ((x : Int) * y)).length ≤ 1201 := len_mulI hl1 hl2
  have HP : Hid ((x : Int) * y = ((x * 10 ^ m : Nat) : Int)) := hide (by rw [HY.out, Int.natCast_mul])
  generalize (x : Int) * y = p at *
  rintro e w4 ⟨v3, rfl, ⟨a3, c3, rfl, ho3⟩, hb⟩
  have yw4 := hb.size
  replace kr0 := (hb.cell (p := ⟨w.heap.size, 0, none⟩) (by dsimp only; omega)).trans kr0
  replace fr0 := (hb.frozen (p := ⟨w.heap.size, 0, none⟩) (by dsimp only; omega)).trans fr0
  replace kr1 := (hb.cell (p := ⟨w.heap.size, 1, none⟩) (by dsimp only; omega)).trans kr1
  replace fr1 := (hb.frozen (p := ⟨w.heap.size, 1, none⟩) (by dsimp only; omega)).trans fr1
  replace kr2 := (hb.cell (p := ⟨w.heap.size, 2, none⟩) (by dsimp only; omega)).trans kr2
  replace fr2 := (hb.frozen (p := ⟨w.heap.size, 2, none⟩) (by dsimp only; omega)).trans fr2
  replace kr3 := (hb.cell (p := ⟨w.heap.size, 3, none⟩) (by dsimp only; omega)).trans kr3
  replace fr3 := (hb.frozen (p := ⟨w.heap.size, 3, none⟩) (by dsimp only; omega)).trans fr3
  replace S1 := hide (S1.out.below hb)
  replace S2 := hide (S2.out.below hb)
  replace zr := Nat.lt_of_lt_of_le zr hb.size
  replace HB := hide (bl_trans HB.out hb)
  clear hb
  have S3 := hide ho3.seg
  clear ho3
  go_wp2_with fail
  refine (fromS 1 _ (by decide) (by decide)).mono ?_
  rintro e w5 ⟨v4, rfl, ⟨a4, c4, rfl, ho4⟩, hb⟩
  have yw5 := hb.size
  replace kr0 := (hb.cell (p := ⟨w.heap.size, 0, none⟩) (by dsimp only; omega)).trans kr0
  replace fr0 := (hb.frozen (p := ⟨w.heap.size, 0, none⟩) (by dsimp only; omega)).trans fr0
  replace kr1 := (hb.cell (p := ⟨w.heap.size, 1, none⟩) (by dsimp only; omega)).trans kr1
  replace fr1 := (hb.frozen (p := ⟨w.heap.size, 1, none⟩) (by dsimp only; omega)).trans fr1
  replace kr2 := (hb.cell (p := ⟨w.heap.size, 2, none⟩) (by dsimp only; omega)).trans kr2
  replace fr2 := (hb.frozen (p := ⟨w.heap.size, 2, none⟩) (by dsimp only; omega)).trans fr2
  replace kr3 := (hb.cell (p := ⟨w.heap.size, 3, none⟩) (by dsimp only; omega)).trans kr3
  replace fr3 := (hb.frozen (p := ⟨w.heap.size, 3, none⟩) (by dsimp only; omega)).trans fr3
  replace S1 := hide (S1.out.below hb)
  replace S2 := hide (S2.out.below hb)
  replace S3 := hide (S3.out.below hb)
  replace zr := Nat.lt_of_lt_of_le zr hb.size
  replace HB := hide (bl_trans HB.out hb)
  clear hb
  have S4 := hide ho4.seg
  clear ho4
  go_wp2_with fail
  refine (makeR p 1 a3 c3 a4 c4 _ S3.out S4.out (by decide) (by omega) (Nat.le_trans (Num.limbs_len.2 (show (1 : Int).natAbs < 4294967296 ^ 1 by decide)) (by decide))).mono ?_
  rintro e w6 ⟨d1, f1, d2, f2, rfl, hu1, hu2, hap, hb⟩
  have yw6 := hb.size
  replace kr0 := (hb.cell (p := ⟨w.heap.size, 0, none⟩) (by dsimp only; omega)).trans kr0
  replace fr0 := (hb.frozen (p := ⟨w.heap.size, 0, none⟩) (by dsimp only; omega)).trans fr0
  replace kr1 := (hb.cell (p := ⟨w.heap.size, 1, none⟩) (by dsimp only; omega)).trans kr1
  replace fr1 := (hb.frozen (p := ⟨w.heap.size, 1, none⟩) (by dsimp only; omega)).trans fr1
  replace kr2 := (hb.cell (p := ⟨w.heap.size, 2, none⟩) (by dsimp only; omega)).trans kr2
  replace fr2 := (hb.frozen (p := ⟨w.heap.size, 2, none⟩) (by dsimp only; omega)).trans fr2
  replace kr3 := (hb.cell (p := ⟨w.heap.size, 3, none⟩) (by dsimp only; omega)).trans kr3
  replace fr3 := (hb.frozen (p := ⟨w.heap.size, 3, none⟩) (by dsimp only; omega)).trans fr3
  replace S1 := hide (S1.out.below hb)
  replace S2 := hide (S2.out.below hb)
  replace S3 := hide (S3.out.below hb)
  replace S4 := hide (S4.out.below hb)
  replace zr := Nat.lt_of_lt_of_le zr hb.size
  replace HB := hide (bl_trans HB.out hb)
  clear hb
  have HO1 := hide hu1
  have HO2 := hide hu2
  have HAP := hide hap
  clear hu1 hu2 hap
  go_wp2
  refine bodyPost_ret (v := (.tuple #[Value.agg #[Value.bool (sgn (p / sgG p 1)), Value.slice d1 (lms (p / sgG p 1)).length f1, Value.bool (sgn (1 / sgG p 1)), Value.slice d2 (lms (1 / sgG p 1)).length f2], .bool true])) (by simp [results, Tryz.results78, go_sem, kr0, kr1, kr2, kr3]) rfl ?_
  have h1 := own_four' (lo := w.heap.size) HO1.out (show w.heap.size < _ by omega) (by omega) (Value.bool (sgn (p / sgG p 1))) (Value.slice d1 (lms (p / sgG p 1)).length f1) (Value.bool (sgn (1 / sgG p 1))) (Value.slice d2 (lms (1 / sgG p 1)).length f2)
  have h2 := own_four' (lo := w.heap.size) HO2.out (show w.heap.size < _ by omega) (by omega) (Value.bool (sgn (p / sgG p 1))) (Value.slice d1 (lms (p / sgG p 1)).length f1) (Value.bool (sgn (1 / sgG p 1))) (Value.slice d2 (lms (1 / sgG p 1)).length f2)
  exact raw_yes HO'.out HP.out rfl h1 h2 HAP.out (set_four (Nat.le_refl _) HB.out _ _ _ _)
end Go.Proofs.YtkemplmhemnpbaaGreatDoor

/- l03Decimal of the specification at any digits and any rest. -/
namespace Go.Proofs.YtkemplmhemnpbaaGreatDoor
open Go.RowKit
set_option linter.unusedVariables false

theorem ext_list (s : ByteArray) (a b : Nat) : (s.extract a b).data.toList = (s.data.toList.drop a).take (b - a) := by
  rw [ByteArray.data_extract, Array.toList_extract, List.extract_eq_take_drop]
theorem ext_tail (s : ByteArray) (a : Nat) : (s.extract a s.size).data.toList = s.data.toList.drop a := by
  rw [ext_list, List.take_of_length_le]
  rw [List.length_drop, bsize]
  exact Nat.le_refl _
theorem app_list (a b : ByteArray) : (a ++ b).data.toList = a.data.toList ++ b.data.toList := by
  rw [ByteArray.data_append, Array.toList_append]
theorem tw_take (p : UInt8 → Bool) (l : List UInt8) : l.take (l.takeWhile p).length = l.takeWhile p := by
  have h := List.takeWhile_append_dropWhile (p := p) (l := l)
  have : (l.takeWhile p ++ l.dropWhile p).take (l.takeWhile p).length = l.takeWhile p := List.take_left
  rw [h] at this; exact this
theorem tw_drop (p : UInt8 → Bool) (l : List UInt8) : l.drop (l.takeWhile p).length = l.dropWhile p := by
  have h := List.takeWhile_append_dropWhile (p := p) (l := l)
  have : (l.takeWhile p ++ l.dropWhile p).drop (l.takeWhile p).length = l.dropWhile p := List.drop_left
  rw [h] at this; exact this
theorem tw_dig (l : List UInt8) : digAll (l.takeWhile dg) = true := by
  rw [all_dg]; exact List.all_takeWhile
theorem emp_of {s : ByteArray} (h : s.size = 0) : s.toList.isEmpty = true := by
  have := size_nil s
  rw [decide_eq_false (by simpa using h)] at this
  simpa using this
theorem emp_no {s : ByteArray} (h : 0 < s.size) : s.toList.isEmpty = false := by
  have := size_nil s
  rw [decide_eq_true (by omega)] at this
  simpa using this
theorem head_of (s : ByteArray) (h : 0 < s.size) : s.data.toList = s[0] :: s.data.toList.drop 1 := by
  have := drop_at s 0 h
  rw [List.drop_zero] at this; exact this
theorem b_no {c d : UInt8} (h : c ≠ d) : ((c.toNat : Int) == (d.toNat : Int)) = false := by
  rw [beq_eq_false_iff_ne]
  exact fun e => h (UInt8.toNat_inj.1 (by omega))
theorem decV_neg {ds : List UInt8} {k : Int} (h : k < 0) : decV ds k = (valN ds, 10 ^ (-k).toNat) := if_pos h
theorem decV_pos {ds : List UInt8} {k : Int} (h : ¬ k < 0) : decV ds k = (valN ds * 10 ^ k.toNat, 1) := if_neg h
theorem size_app' (a b : ByteArray) : (a ++ b).size = a.size + b.size := ByteArray.size_append
theorem size_pos {s : ByteArray} {c : UInt8} {t : List UInt8} (h : s.data.toList = c :: t) : 0 < s.size := by rw [← bsize, h]; simp
theorem get_head {s : ByteArray} {c : UInt8} {t : List UInt8} (h : s.data.toList = c :: t) (hp : 0 < s.size) : s[0] = c := by
  have := head_of s hp
  rw [h] at this
  exact (List.cons.inj this).1.symm
theorem ext_one {s : ByteArray} {c : UInt8} {t : List UInt8} (h : s.data.toList = c :: t) : (s.extract 1 s.size).data.toList = t := by
  rw [ext_tail, h]; rfl

set_option maxHeartbeats 1000000 in
theorem decimalS (A R : ByteArray) (w : World) (hda : digAll A.data.toList = true) (hsz : A.size + R.size ≤ 400) :
    Calls Tryz.prog 78 #[.string A, .string R] w fun e w' => RawAns (decS' A.data.toList R.data.toList) w w' e := by
  have n0 : (-1000 : Int) < 0 ∧ (0 : Int) < 1000 := by omega
  cases hl : R.data.toList with
  | nil =>
    have h0 : R.size = 0 := by rw [← bsize, hl]; rfl
    exact decY1 A R 0 0 0 _ w hsz (Nat.zero_le _) n0 (emp_of h0) hda (by omega) (Nat.zero_le _) rfl
  | cons c t =>
    have hp := size_pos hl
    have hc := get_head hl hp
    have he := ext_one hl
    by_cases h46 : c = 46
    · have h46i : (R[0].toNat : Int) = 46 := by rw [hc, h46]; rfl
      have hdt : R.data.toList.drop 1 = t := by rw [hl]; rfl
      have hE : runN R 1 = 1 + (t.takeWhile dg).length := by unfold runN; rw [hdt]
      have hEs := run_le (s := R) (k := 1) hp
      have hs : decS' A.data.toList (c :: t) = if t.takeWhile dg = [] then none else endS (A.data.toList ++ t.takeWhile dg) (-((t.takeWhile dg).length : Int)) (t.dropWhile dg) := by simp only [decS']; rw [if_pos h46]
      rw [hs]
      by_cases hP : t.takeWhile dg = []
      · rw [if_pos hP]
        exact decN1 A R (runN R 1) 0 0 _ w hsz hEs.2 n0 (emp_no hp) hp h46i rfl (by rw [hE, hP]; rfl) rfl
      · rw [if_neg hP]
        have hPl : 0 < (t.takeWhile dg).length := List.length_pos_iff.2 hP
        obtain ⟨E, hEe⟩ : ∃ E, runN R 1 = E := ⟨_, rfl⟩
        rw [hEe] at hE hEs
        have hPL : ((t.takeWhile dg).length : Int) = (E : Int) - 1 := by omega
        have hX : (R.extract 1 E).data.toList = t.takeWhile dg := by
          rw [ext_list, hdt, show E - 1 = (t.takeWhile dg).length by omega, tw_take]
        have hXA : (A ++ R.extract 1 E).data.toList = A.data.toList ++ t.takeWhile dg := by rw [app_list, hX]
        have hXd : digAll (A ++ R.extract 1 E).data.toList = true := by rw [hXA]; exact digAll_app hda (tw_dig t)
        have hXs : (A ++ R.extract 1 E).size ≤ 400 := by
          rw [size_app', ByteArray.size_extract]; omega
        have hY : (R.extract E R.size).data.toList = t.dropWhile dg := by
          rw [ext_tail, show E = 1 + (t.takeWhile dg).length by omega, ← List.drop_drop, hdt, tw_drop]
        have hYs : (R.extract E R.size).size = R.size - E := by rw [ByteArray.size_extract]; omega
        rw [← hXA]
        cases hr : t.dropWhile dg with
        | nil =>
          have h0 : (R.extract E R.size).size = 0 := by rw [← bsize, hY, hr]; rfl
          have hk : (-((t.takeWhile dg).length : Int)) < 0 := by omega
          show Calls _ _ _ _ fun e w' => RawAns (some (decV _ _)) w w' e
          rw [decV_neg hk]
          exact decY4 A R E (- -((t.takeWhile dg).length : Int)).toNat 0 _ w hsz hEs.2 n0 (emp_no hp) hp h46i hEe (by omega) (emp_of h0) hXd hXs (by omega) (by omega) (by omega) rfl
        | cons c2 t2 =>
          rw [hr] at hY
          have hp2 := size_pos hY
          have hc2 := get_head hY hp2
          have he2 : ((R.extract E R.size).extract 1 (R.size - E)).data.toList = t2 := by rw [← hYs]; exact ext_one hY
          have hq1 : 0 < R.size - E := by omega
          by_cases h101 : c2 = 101
          · have h101i : ((R.extract E R.size)[0].toNat : Int) = 101 := by rw [hc2, h101]; rfl
            have hs2 : endS (A ++ R.extract 1 E).data.toList (-((t.takeWhile dg).length : Int)) (c2 :: t2) = (expV t2).bind fun n => some (decV (A ++ R.extract 1 E).data.toList (-((t.takeWhile dg).length : Int) + n)) := by simp only [endS]; rw [if_pos h101]
            rw [hs2]
            cases hx : expV t2 with
            | none => exact decN5 A R E 0 0 _ w hsz hEs.2 n0 (emp_no hp) hp h46i hEe (by omega) (emp_no hp2) hp2 hq1 h101i (by rw [he2]; exact hx) rfl
            | some n =>
              have hn := exp_small hx
              show Calls _ _ _ _ fun e w' => RawAns (some (decV _ _)) w w' e
              by_cases hk : -((t.takeWhile dg).length : Int) + n < 0
              · rw [decV_neg hk]
                exact decY5 A R E (-(-((t.takeWhile dg).length : Int) + n)).toNat n _ w hsz hEs.2 hn (emp_no hp) hp h46i hEe (by omega) (emp_no hp2) hp2 hq1 h101i (by rw [he2]; exact hx) hXd hXs (by omega) (by omega) (by omega) rfl
              · rw [decV_pos hk]
                exact decY6 A R E (-((t.takeWhile dg).length : Int) + n).toNat n _ w hsz hEs.2 hn (emp_no hp) hp h46i hEe (by omega) (emp_no hp2) hp2 hq1 h101i (by rw [he2]; exact hx) hXd hXs (by omega) (by omega) rfl
          · have hs2 : endS (A ++ R.extract 1 E).data.toList (-((t.takeWhile dg).length : Int)) (c2 :: t2) = none := by simp only [endS]; rw [if_neg h101]
            rw [hs2]
            exact decN4 A R E 0 0 _ w hsz hEs.2 n0 (emp_no hp) hp h46i hEe (by omega) (emp_no hp2) hp2 hq1 (by rw [hc2]; exact b_no (d := 101) h101) rfl
    · have h46i : ((R[0].toNat : Int) == 46) = false := by rw [hc]; exact b_no (d := 46) h46
      have hs : decS' A.data.toList (c :: t) = endS A.data.toList 0 (c :: t) := by simp only [decS']; rw [if_neg h46]
      rw [hs]
      by_cases h101 : c = 101
      · have h101i : (R[0].toNat : Int) = 101 := by rw [hc, h101]; rfl
        have hs2 : endS A.data.toList 0 (c :: t) = (expV t).bind fun n => some (decV A.data.toList (0 + n)) := by simp only [endS]; rw [if_pos h101]
        rw [hs2]
        cases hx : expV t with
        | none => exact decN3 A R 0 0 0 _ w hsz (Nat.zero_le _) n0 (emp_no hp) hp hp h46i h101i (by rw [he]; exact hx) rfl
        | some n =>
          have hn := exp_small hx
          show Calls _ _ _ _ fun e w' => RawAns (some (decV _ _)) w w' e
          rw [Int.zero_add]
          by_cases hk : n < 0
          · rw [decV_neg hk]
            exact decY2 A R 0 (-n).toNat n _ w hsz (Nat.zero_le _) hn (emp_no hp) hp hp h46i h101i (by rw [he]; exact hx) hda (by omega) (by omega) (by omega) (by omega) rfl
          · rw [decV_pos hk]
            exact decY3 A R 0 n.toNat n _ w hsz (Nat.zero_le _) hn (emp_no hp) hp hp h46i h101i (by rw [he]; exact hx) hda (by omega) (by omega) (by omega) rfl
      · have hs2 : endS A.data.toList 0 (c :: t) = none := by simp only [endS]; rw [if_neg h101]
        rw [hs2]
        exact decN2 A R 0 0 0 _ w hsz (Nat.zero_le _) n0 (emp_no hp) hp hp h46i (by rw [hc]; exact b_no (d := 101) h101) rfl
end Go.Proofs.YtkemplmhemnpbaaGreatDoor

/- The walk of l03Read: a text without a sign, read from the left. -/
namespace Go.Proofs.YtkemplmhemnpbaaGreatDoor
open Go.RowKit
set_option linter.unusedVariables false

theorem runS1 (s : ByteArray) (i : Nat) (w : World) (hi : i + 1 ≤ s.size) (hs : s.size ≤ 400) :
    Calls Tryz.prog 76 #[.string s, .int .i64 ((i : Int) + 1)] w fun e w' => e = .returned (.int .i64 (runN s (i + 1) : Nat)) ∧ w' = w := runS s (i + 1) w hi hs
set_option maxHeartbeats 4000000 in
set_option maxRecDepth 20000 in
theorem rdF1 (s : ByteArray) (i j : Nat) (o : Option (Nat × Nat)) (w : World) (hs : s.size ≤ 400) (hI : runN s 0 = i) (hi : i = 0) (ho : o = none) :
    Calls Tryz.prog 44 #[.string s] w fun e w' => RawAns o w w' e := by
  have HI' := hide hI
  have HO' := hide ho
  clear hI ho
  have hi' : (i : Int) = 0 := by omega
  have hi2 : ((i : Int) == 0) = true := by rw [beq_iff_eq]; exact hi'
  have kr0 : (w.alloc (Obj.cells #[Value.bool false, Value.slice none 0 0, Value.bool false, Value.slice none 0 0] 42)).cell? ⟨w.heap.size, 0, none⟩ = some (Value.bool false) := by go_simp
  have fr0 : (w.alloc (Obj.cells #[Value.bool false, Value.slice none 0 0, Value.bool false, Value.slice none 0 0] 42)).frozen? ⟨w.heap.size, 0, none⟩ = false := by go_simp
  have kr1 : (w.alloc (Obj.cells #[Value.bool false, Value.slice none 0 0, Value.bool false, Value.slice none 0 0] 42)).cell? ⟨w.heap.size, 1, none⟩ = some (Value.slice none 0 0) := by go_simp
  have fr1 : (w.alloc (Obj.cells #[Value.bool false, Value.slice none 0 0, Value.bool false, Value.slice none 0 0] 42)).frozen? ⟨w.heap.size, 1, none⟩ = false := by go_simp
  have kr2 : (w.alloc (Obj.cells #[Value.bool false, Value.slice none 0 0, Value.bool false, Value.slice none 0 0] 42)).cell? ⟨w.heap.size, 2, none⟩ = some (Value.bool false) := by go_simp
  have fr2 : (w.alloc (Obj.cells #[Value.bool false, Value.slice none 0 0, Value.bool false, Value.slice none 0 0] 42)).frozen? ⟨w.heap.size, 2, none⟩ = false := by go_simp
  have kr3 : (w.alloc (Obj.cells #[Value.bool false, Value.slice none 0 0, Value.bool false, Value.slice none 0 0] 42)).cell? ⟨w.heap.size, 3, none⟩ = some (Value.slice none 0 0) := by go_simp
  have fr3 : (w.alloc (Obj.cells #[Value.bool false, Value.slice none 0 0, Value.bool false, Value.slice none 0 0] 42)).frozen? ⟨w.heap.size, 3, none⟩ = false := by go_simp
  have zr : w.heap.size < (w.alloc (Obj.cells #[Value.bool false, Value.slice none 0 0, Value.bool false, Value.slice none 0 0] 42)).heap.size := by simp only [World.size_alloc]; omega
  have HB := hide (bl_alloc (bl_refl w) (Obj.cells #[Value.bool false, Value.slice none 0 0, Value.bool false, Value.slice none 0 0] 42))
  go_enter Tryz.func44, Tryz.ntmps44
  go_wp2_with fail
  generalize (w.alloc (Obj.cells #[Value.bool false, Value.slice none 0 0, Value.bool false, Value.slice none 0 0] 42)) = w1 at *
  have z0 := zr
  refine (runS s 0 _ (Nat.zero_le _) hs).mono ?_
  rw [HI'.out]
  rintro e w' ⟨rfl, hw⟩
  subst w'
  go_wp2
  refine bodyPost_ret (v := (.tuple #[.agg #[.bool false, .slice none 0 0, .bool false, .slice none 0 0], .bool false])) (by simp [results, Tryz.results44, go_sem, kr0, kr1, kr2, kr3]) rfl ?_
  exact raw_no HO'.out (set_four (Nat.le_refl _) HB.out _ _ _ _)

set_option maxHeartbeats 4000000 in
set_option maxRecDepth 20000 in
theorem rdF2 (s : ByteArray) (i j : Nat) (o : Option (Nat × Nat)) (w : World) (hs : s.size ≤ 400) (hI : runN s 0 = i) (hi : 0 < i) (hil : i < s.size) (h47 : (s[i].toNat : Int) = 47) (hJ : runN s (i + 1) = j) (hij : i + 1 ≤ j) (hjs : j ≤ s.size) (hdt : digAll (s.extract (i + 1) j).data.toList = true) (hjl : j < s.size) (ho : o = none) :
    Calls Tryz.prog 44 #[.string s] w fun e w' => RawAns o w w' e := by
  have HI' := hide hI
  have HJ' := hide hJ
  have HDT' := hide hdt
  have HO' := hide ho
  clear hI hJ hdt ho
  have hi' : ¬ (i : Int) = 0 := by omega
  have hi2 : ((i : Int) == 0) = false := by rw [beq_eq_false_iff_ne]; exact hi'
  have hi3 : (0 : Int) ≤ (i : Int) := by omega
  have hil' : (i : Int) < (s.size : Int) := by omega
  have hil2 : (i : Int) ≤ (s.size : Int) := by omega
  have hij' : (i : Int) + 1 ≤ (j : Int) := by omega
  have hjs' : (j : Int) ≤ (s.size : Int) := by omega
  have hjl' : (j : Int) < (s.size : Int) := by omega
  have kr0 : (w.alloc (Obj.cells #[Value.bool false, Value.slice none 0 0, Value.bool false, Value.slice none 0 0] 42)).cell? ⟨w.heap.size, 0, none⟩ = some (Value.bool false) := by go_simp
  have fr0 : (w.alloc (Obj.cells #[Value.bool false, Value.slice none 0 0, Value.bool false, Value.slice none 0 0] 42)).frozen? ⟨w.heap.size, 0, none⟩ = false := by go_simp
  have kr1 : (w.alloc (Obj.cells #[Value.bool false, Value.slice none 0 0, Value.bool false, Value.slice none 0 0] 42)).cell? ⟨w.heap.size, 1, none⟩ = some (Value.slice none 0 0) := by go_simp
  have fr1 : (w.alloc (Obj.cells #[Value.bool false, Value.slice none 0 0, Value.bool false, Value.slice none 0 0] 42)).frozen? ⟨w.heap.size, 1, none⟩ = false := by go_simp
  have kr2 : (w.alloc (Obj.cells #[Value.bool false, Value.slice none 0 0, Value.bool false, Value.slice none 0 0] 42)).cell? ⟨w.heap.size, 2, none⟩ = some (Value.bool false) := by go_simp
  have fr2 : (w.alloc (Obj.cells #[Value.bool false, Value.slice none 0 0, Value.bool false, Value.slice none 0 0] 42)).frozen? ⟨w.heap.size, 2, none⟩ = false := by go_simp
  have kr3 : (w.alloc (Obj.cells #[Value.bool false, Value.slice none 0 0, Value.bool false, Value.slice none 0 0] 42)).cell? ⟨w.heap.size, 3, none⟩ = some (Value.slice none 0 0) := by go_simp
  have fr3 : (w.alloc (Obj.cells #[Value.bool false, Value.slice none 0 0, Value.bool false, Value.slice none 0 0] 42)).frozen? ⟨w.heap.size, 3, none⟩ = false := by go_simp
  have zr : w.heap.size < (w.alloc (Obj.cells #[Value.bool false, Value.slice none 0 0, Value.bool false, Value.slice none 0 0] 42)).heap.size := by simp only [World.size_alloc]; omega
  have HB := hide (bl_alloc (bl_refl w) (Obj.cells #[Value.bool false, Value.slice none 0 0, Value.bool false, Value.slice none 0 0] 42))
  go_enter Tryz.func44, Tryz.ntmps44
  go_wp2_with fail
  generalize (w.alloc (Obj.cells #[Value.bool false, Value.slice none 0 0, Value.bool false, Value.slice none 0 0] 42)) = w1 at *
  have z0 := zr
  refine (runS s 0 _ (Nat.zero_le _) hs).mono ?_
  rw [HI'.out]
  rintro e w' ⟨rfl, hw⟩
  subst w'
  go_wp2_with fail
  refine (runS1 s i _ (by omega) hs).mono ?_
  rw [HJ'.out]
  rintro e w' ⟨rfl, hw⟩
  subst w'
  go_wp2_with fail
  have hds : (s.extract (i + 1) j).size ≤ 400 := by rw [ByteArray.size_extract]; omega
  refine (digitsS (s.extract (i + 1) j) _ HDT'.out hds).mono ?_
  have hl1 : (lms (valN (s.extract (i + 1) j).data.toList : Int)).length ≤ 200 := lms_short HDT'.out (by rw [bsize]; exact hds)
  generalize valN (s.extract (i + 1) j).data.toList = d at *
  rintro e w2 ⟨v1, rfl, ⟨a1, c1, rfl, ho1⟩, hb⟩
  have yw2 := hb.size
  replace kr0 := (hb.cell (p := ⟨w.heap.size, 0, none⟩) (by dsimp only; omega)).trans kr0
  replace fr0 := (hb.frozen (p := ⟨w.heap.size, 0, none⟩) (by dsimp only; omega)).trans fr0
  replace kr1 := (hb.cell (p := ⟨w.heap.size, 1, none⟩) (by dsimp only; omega)).trans kr1
  replace fr1 := (hb.frozen (p := ⟨w.heap.size, 1, none⟩) (by dsimp only; omega)).trans fr1
  replace kr2 := (hb.cell (p := ⟨w.heap.size, 2, none⟩) (by dsimp only; omega)).trans kr2
  replace fr2 := (hb.frozen (p := ⟨w.heap.size, 2, none⟩) (by dsimp only; omega)).trans fr2
  replace kr3 := (hb.cell (p := ⟨w.heap.size, 3, none⟩) (by dsimp only; omega)).trans kr3
  replace fr3 := (hb.frozen (p := ⟨w.heap.size, 3, none⟩) (by dsimp only; omega)).trans fr3
  replace zr := Nat.lt_of_lt_of_le zr hb.size
  replace HB := hide (bl_trans HB.out hb)
  clear hb
  have S1 := hide ho1.seg
  clear ho1
  have yw3 : w2.heap.size + 1 ≤ (w2.alloc (Obj.cells #[Value.bool (sgn (d : Int)), Value.slice a1 (lms (d : Int)).length c1] 40)).heap.size := by simp only [World.size_alloc]; omega
  have kd0 : (w2.alloc (Obj.cells #[Value.bool (sgn (d : Int)), Value.slice a1 (lms (d : Int)).length c1] 40)).cell? ⟨w2.heap.size, 0, none⟩ = some (Value.bool (sgn (d : Int))) := by go_simp
  have kd1 : (w2.alloc (Obj.cells #[Value.bool (sgn (d : Int)), Value.slice a1 (lms (d : Int)).length c1] 40)).cell? ⟨w2.heap.size, 1, none⟩ = some (Value.slice a1 (lms (d : Int)).length c1) := by go_simp
  have hbn := (bl_alloc (bl_refl w2) (Obj.cells #[Value.bool (sgn (d : Int)), Value.slice a1 (lms (d : Int)).length c1] 40))
  replace kr0 := (hbn.cell (p := ⟨w.heap.size, 0, none⟩) (by dsimp only; omega)).trans kr0
  replace fr0 := (hbn.frozen (p := ⟨w.heap.size, 0, none⟩) (by dsimp only; omega)).trans fr0
  replace kr1 := (hbn.cell (p := ⟨w.heap.size, 1, none⟩) (by dsimp only; omega)).trans kr1
  replace fr1 := (hbn.frozen (p := ⟨w.heap.size, 1, none⟩) (by dsimp only; omega)).trans fr1
  replace kr2 := (hbn.cell (p := ⟨w.heap.size, 2, none⟩) (by dsimp only; omega)).trans kr2
  replace fr2 := (hbn.frozen (p := ⟨w.heap.size, 2, none⟩) (by dsimp only; omega)).trans fr2
  replace kr3 := (hbn.cell (p := ⟨w.heap.size, 3, none⟩) (by dsimp only; omega)).trans kr3
  replace fr3 := (hbn.frozen (p := ⟨w.heap.size, 3, none⟩) (by dsimp only; omega)).trans fr3
  replace S1 := hide (S1.out.below hbn)
  replace zr := Nat.lt_of_lt_of_le zr hbn.size
  replace HB := hide (bl_trans HB.out hbn)
  clear hbn
  go_wp2_with fail
  generalize (w2.alloc (Obj.cells #[Value.bool (sgn (d : Int)), Value.slice a1 (lms (d : Int)).length c1] 40)) = w3 at *
  refine (runS1 s i _ (by omega) hs).mono ?_
  rw [HJ'.out]
  rintro e w' ⟨rfl, hw⟩
  subst w'
  go_wp2
  refine bodyPost_ret (v := (.tuple #[.agg #[.bool false, .slice none 0 0, .bool false, .slice none 0 0], .bool false])) (by simp [results, Tryz.results44, go_sem, kr0, kr1, kr2, kr3]) rfl ?_
  exact raw_no HO'.out (set_four (Nat.le_refl _) HB.out _ _ _ _)

set_option maxHeartbeats 4000000 in
set_option maxRecDepth 20000 in
theorem rdF3 (s : ByteArray) (i j : Nat) (o : Option (Nat × Nat)) (w : World) (hs : s.size ≤ 400) (hI : runN s 0 = i) (hi : 0 < i) (hil : i < s.size) (h47 : (s[i].toNat : Int) = 47) (hJ : runN s (i + 1) = j) (hij : i + 1 ≤ j) (hjs : j ≤ s.size) (hdt : digAll (s.extract (i + 1) j).data.toList = true) (hjl : j = s.size) (hz : valN (s.extract (i + 1) j).data.toList = 0) (ho : o = none) :
    Calls Tryz.prog 44 #[.string s] w fun e w' => RawAns o w w' e := by
  have HI' := hide hI
  have HJ' := hide hJ
  have HDT' := hide hdt
  have HO' := hide ho
  clear hI hJ hdt ho
  have hi' : ¬ (i : Int) = 0 := by omega
  have hi2 : ((i : Int) == 0) = false := by rw [beq_eq_false_iff_ne]; exact hi'
  have hi3 : (0 : Int) ≤ (i : Int) := by omega
  have hil' : (i : Int) < (s.size : Int) := by omega
  have hil2 : (i : Int) ≤ (s.size : Int) := by omega
  have hij' : (i : Int) + 1 ≤ (j : Int) := by omega
  have hjs' : (j : Int) ≤ (s.size : Int) := by omega
  have hjl' : ¬ (j : Int) < (s.size : Int) := by omega
  clear hjl
  have HZ := hide hz
  clear hz
  have kr0 : (w.alloc (Obj.cells #[Value.bool false, Value.slice none 0 0, Value.bool false, Value.slice none 0 0] 42)).cell? ⟨w.heap.size, 0, none⟩ = some (Value.bool false) := by go_simp
  have fr0 : (w.alloc (Obj.cells #[Value.bool false, Value.slice none 0 0, Value.bool false, Value.slice none 0 0] 42)).frozen? ⟨w.heap.size, 0, none⟩ = false := by go_simp
  have kr1 : (w.alloc (Obj.cells #[Value.bool false, Value.slice none 0 0, Value.bool false, Value.slice none 0 0] 42)).cell? ⟨w.heap.size, 1, none⟩ = some (Value.slice none 0 0) := by go_simp
  have fr1 : (w.alloc (Obj.cells #[Value.bool false, Value.slice none 0 0, Value.bool false, Value.slice none 0 0] 42)).frozen? ⟨w.heap.size, 1, none⟩ = false := by go_simp
  have kr2 : (w.alloc (Obj.cells #[Value.bool false, Value.slice none 0 0, Value.bool false, Value.slice none 0 0] 42)).cell? ⟨w.heap.size, 2, none⟩ = some (Value.bool false) := by go_simp
  have fr2 : (w.alloc (Obj.cells #[Value.bool false, Value.slice none 0 0, Value.bool false, Value.slice none 0 0] 42)).frozen? ⟨w.heap.size, 2, none⟩ = false := by go_simp
  have kr3 : (w.alloc (Obj.cells #[Value.bool false, Value.slice none 0 0, Value.bool false, Value.slice none 0 0] 42)).cell? ⟨w.heap.size, 3, none⟩ = some (Value.slice none 0 0) := by go_simp
  have fr3 : (w.alloc (Obj.cells #[Value.bool false, Value.slice none 0 0, Value.bool false, Value.slice none 0 0] 42)).frozen? ⟨w.heap.size, 3, none⟩ = false := by go_simp
  have zr : w.heap.size < (w.alloc (Obj.cells #[Value.bool false, Value.slice none 0 0, Value.bool false, Value.slice none 0 0] 42)).heap.size := by simp only [World.size_alloc]; omega
  have HB := hide (bl_alloc (bl_refl w) (Obj.cells #[Value.bool false, Value.slice none 0 0, Value.bool false, Value.slice none 0 0] 42))
  go_enter Tryz.func44, Tryz.ntmps44
  go_wp2_with fail
  generalize (w.alloc (Obj.cells #[Value.bool false, Value.slice none 0 0, Value.bool false, Value.slice none 0 0] 42)) = w1 at *
  have z0 := zr
  refine (runS s 0 _ (Nat.zero_le _) hs).mono ?_
  rw [HI'.out]
  rintro e w' ⟨rfl, hw⟩
  subst w'
  go_wp2_with fail
  refine (runS1 s i _ (by omega) hs).mono ?_
  rw [HJ'.out]
  rintro e w' ⟨rfl, hw⟩
  subst w'
  go_wp2_with fail
  have hds : (s.extract (i + 1) j).size ≤ 400 := by rw [ByteArray.size_extract]; omega
  refine (digitsS (s.extract (i + 1) j) _ HDT'.out hds).mono ?_
  have hl1 : (lms (valN (s.extract (i + 1) j).data.toList : Int)).length ≤ 200 := lms_short HDT'.out (by rw [bsize]; exact hds)
  rw [HZ.out, show ((0 : Nat) : Int) = 0 from rfl]
  clear hl1
  rintro e w2 ⟨v1, rfl, ⟨a1, c1, rfl, ho1⟩, hb⟩
  have yw2 := hb.size
  replace kr0 := (hb.cell (p := ⟨w.heap.size, 0, none⟩) (by dsimp only; omega)).trans kr0
  replace fr0 := (hb.frozen (p := ⟨w.heap.size, 0, none⟩) (by dsimp only; omega)).trans fr0
  replace kr1 := (hb.cell (p := ⟨w.heap.size, 1, none⟩) (by dsimp only; omega)).trans kr1
  replace fr1 := (hb.frozen (p := ⟨w.heap.size, 1, none⟩) (by dsimp only; omega)).trans fr1
  replace kr2 := (hb.cell (p := ⟨w.heap.size, 2, none⟩) (by dsimp only; omega)).trans kr2
  replace fr2 := (hb.frozen (p := ⟨w.heap.size, 2, none⟩) (by dsimp only; omega)).trans fr2
  replace kr3 := (hb.cell (p := ⟨w.heap.size, 3, none⟩) (by dsimp only; omega)).trans kr3
  replace fr3 := (hb.frozen (p := ⟨w.heap.size, 3, none⟩) (by dsimp only; omega)).trans fr3
  replace zr := Nat.lt_of_lt_of_le zr hb.size
  replace HB := hide (bl_trans HB.out hb)
  clear hb
  have S1 := hide ho1.seg
  clear ho1
  rw [zero_lms] at S1 ⊢
  rw [zero_sgn]
  have yw3 : w2.heap.size + 1 ≤ (w2.alloc (Obj.cells #[Value.bool false, Value.slice a1 ([] : List Nat).length c1] 40)).heap.size := by simp only [World.size_alloc]; omega
  have kd0 : (w2.alloc (Obj.cells #[Value.bool false, Value.slice a1 ([] : List Nat).length c1] 40)).cell? ⟨w2.heap.size, 0, none⟩ = some (Value.bool false) := by go_simp
  have kd1 : (w2.alloc (Obj.cells #[Value.bool false, Value.slice a1 ([] : List Nat).length c1] 40)).cell? ⟨w2.heap.size, 1, none⟩ = some (Value.slice a1 ([] : List Nat).length c1) := by go_simp
  have hbn := (bl_alloc (bl_refl w2) (Obj.cells #[Value.bool false, Value.slice a1 ([] : List Nat).length c1] 40))
  replace kr0 := (hbn.cell (p := ⟨w.heap.size, 0, none⟩) (by dsimp only; omega)).trans kr0
  replace fr0 := (hbn.frozen (p := ⟨w.heap.size, 0, none⟩) (by dsimp only; omega)).trans fr0
  replace kr1 := (hbn.cell (p := ⟨w.heap.size, 1, none⟩) (by dsimp only; omega)).trans kr1
  replace fr1 := (hbn.frozen (p := ⟨w.heap.size, 1, none⟩) (by dsimp only; omega)).trans fr1
  replace kr2 := (hbn.cell (p := ⟨w.heap.size, 2, none⟩) (by dsimp only; omega)).trans kr2
  replace fr2 := (hbn.frozen (p := ⟨w.heap.size, 2, none⟩) (by dsimp only; omega)).trans fr2
  replace kr3 := (hbn.cell (p := ⟨w.heap.size, 3, none⟩) (by dsimp only; omega)).trans kr3
  replace fr3 := (hbn.frozen (p := ⟨w.heap.size, 3, none⟩) (by dsimp only; omega)).trans fr3
  replace S1 := hide (S1.out.below hbn)
  replace zr := Nat.lt_of_lt_of_le zr hbn.size
  replace HB := hide (bl_trans HB.out hbn)
  clear hbn
  go_wp2_with fail
  generalize (w2.alloc (Obj.cells #[Value.bool false, Value.slice a1 ([] : List Nat).length c1] 40)) = w3 at *
  refine (runS1 s i _ (by omega) hs).mono ?_
  rw [HJ'.out]
  rintro e w' ⟨rfl, hw⟩
  subst w'
  go_wp2
  refine bodyPost_ret (v := (.tuple #[.agg #[.bool false, .slice none 0 0, .bool false, .slice none 0 0], .bool false])) (by simp [results, Tryz.results44, go_sem, kr0, kr1, kr2, kr3]) rfl ?_
  exact raw_no HO'.out (set_four (Nat.le_refl _) HB.out _ _ _ _)

set_option maxHeartbeats 4000000 in
set_option maxRecDepth 20000 in
theorem rdY1 (s : ByteArray) (i j : Nat) (o : Option (Nat × Nat)) (w : World) (hs : s.size ≤ 400) (hI : runN s 0 = i) (hi : 0 < i) (hil : i < s.size) (h47 : (s[i].toNat : Int) = 47) (hJ : runN s (i + 1) = j) (hij : i + 1 ≤ j) (hjs : j ≤ s.size) (hdt : digAll (s.extract (i + 1) j).data.toList = true) (hjl : j = s.size) (hz : valN (s.extract (i + 1) j).data.toList ≠ 0) (hdw : digAll (s.extract 0 i).data.toList = true) (ho : o = some (valN (s.extract 0 i).data.toList, valN (s.extract (i + 1) j).data.toList)) :
    Calls Tryz.prog 44 #[.string s] w fun e w' => RawAns o w w' e := by
  have HI' := hide hI
  have HJ' := hide hJ
  have HDT' := hide hdt
  have HDW' := hide hdw
  have HO' := hide ho
  clear hI hJ hdt hdw ho
  have hi' : ¬ (i : Int) = 0 := by omega
  have hi2 : ((i : Int) == 0) = false := by rw [beq_eq_false_iff_ne]; exact hi'
  have hi3 : (0 : Int) ≤ (i : Int) := by omega
  have hil' : (i : Int) < (s.size : Int) := by omega
  have hil2 : (i : Int) ≤ (s.size : Int) := by omega
  have hij' : (i : Int) + 1 ≤ (j : Int) := by omega
  have hjs' : (j : Int) ≤ (s.size : Int) := by omega
  have hjl' : ¬ (j : Int) < (s.size : Int) := by omega
  clear hjl
  have HZ := hide hz
  clear hz
  have kr0 : (w.alloc (Obj.cells #[Value.bool false, Value.slice none 0 0, Value.bool false, Value.slice none 0 0] 42)).cell? ⟨w.heap.size, 0, none⟩ = some (Value.bool false) := by go_simp
  have fr0 : (w.alloc (Obj.cells #[Value.bool false, Value.slice none 0 0, Value.bool false, Value.slice none 0 0] 42)).frozen? ⟨w.heap.size, 0, none⟩ = false := by go_simp
  have kr1 : (w.alloc (Obj.cells #[Value.bool false, Value.slice none 0 0, Value.bool false, Value.slice none 0 0] 42)).cell? ⟨w.heap.size, 1, none⟩ = some (Value.slice none 0 0) := by go_simp
  have fr1 : (w.alloc (Obj.cells #[Value.bool false, Value.slice none 0 0, Value.bool false, Value.slice none 0 0] 42)).frozen? ⟨w.heap.size, 1, none⟩ = false := by go_simp
  have kr2 : (w.alloc (Obj.cells #[Value.bool false, Value.slice none 0 0, Value.bool false, Value.slice none 0 0] 42)).cell? ⟨w.heap.size, 2, none⟩ = some (Value.bool false) := by go_simp
  have fr2 : (w.alloc (Obj.cells #[Value.bool false, Value.slice none 0 0, Value.bool false, Value.slice none 0 0] 42)).frozen? ⟨w.heap.size, 2, none⟩ = false := by go_simp
  have kr3 : (w.alloc (Obj.cells #[Value.bool false, Value.slice none 0 0, Value.bool false, Value.slice none 0 0] 42)).cell? ⟨w.heap.size, 3, none⟩ = some (Value.slice none 0 0) := by go_simp
  have fr3 : (w.alloc (Obj.cells #[Value.bool false, Value.slice none 0 0, Value.bool false, Value.slice none 0 0] 42)).frozen? ⟨w.heap.size, 3, none⟩ = false := by go_simp
  have zr : w.heap.size < (w.alloc (Obj.cells #[Value.bool false, Value.slice none 0 0, Value.bool false, Value.slice none 0 0] 42)).heap.size := by simp only [World.size_alloc]; omega
  have HB := hide (bl_alloc (bl_refl w) (Obj.cells #[Value.bool false, Value.slice none 0 0, Value.bool false, Value.slice none 0 0] 42))
  go_enter Tryz.func44, Tryz.ntmps44
  go_wp2_with fail
  generalize (w.alloc (Obj.cells #[Value.bool false, Value.slice none 0 0, Value.bool false, Value.slice none 0 0] 42)) = w1 at *
  have z0 := zr
  refine (runS s 0 _ (Nat.zero_le _) hs).mono ?_
  rw [HI'.out]
  rintro e w' ⟨rfl, hw⟩
  subst w'
  go_wp2_with fail
  refine (runS1 s i _ (by omega) hs).mono ?_
  rw [HJ'.out]
  rintro e w' ⟨rfl, hw⟩
  subst w'
  go_wp2_with fail
  have hds : (s.extract (i + 1) j).size ≤ 400 := by rw [ByteArray.size_extract]; omega
  refine (digitsS (s.extract (i + 1) j) _ HDT'.out hds).mono ?_
  have hl1 : (lms (valN (s.extract (i + 1) j).data.toList : Int)).length ≤ 200 := lms_short HDT'.out (by rw [bsize]; exact hds)
  generalize valN (s.extract (i + 1) j).data.toList = d at *
  rintro e w2 ⟨v1, rfl, ⟨a1, c1, rfl, ho1⟩, hb⟩
  have yw2 := hb.size
  replace kr0 := (hb.cell (p := ⟨w.heap.size, 0, none⟩) (by dsimp only; omega)).trans kr0
  replace fr0 := (hb.frozen (p := ⟨w.heap.size, 0, none⟩) (by dsimp only; omega)).trans fr0
  replace kr1 := (hb.cell (p := ⟨w.heap.size, 1, none⟩) (by dsimp only; omega)).trans kr1
  replace fr1 := (hb.frozen (p := ⟨w.heap.size, 1, none⟩) (by dsimp only; omega)).trans fr1
  replace kr2 := (hb.cell (p := ⟨w.heap.size, 2, none⟩) (by dsimp only; omega)).trans kr2
  replace fr2 := (hb.frozen (p := ⟨w.heap.size, 2, none⟩) (by dsimp only; omega)).trans fr2
  replace kr3 := (hb.cell (p := ⟨w.heap.size, 3, none⟩) (by dsimp only; omega)).trans kr3
  replace fr3 := (hb.frozen (p := ⟨w.heap.size, 3, none⟩) (by dsimp only; omega)).trans fr3
  replace zr := Nat.lt_of_lt_of_le zr hb.size
  replace HB := hide (bl_trans HB.out hb)
  clear hb
  have S1 := hide ho1.seg
  clear ho1
  have yw3 : w2.heap.size + 1 ≤ (w2.alloc (Obj.cells #[Value.bool (sgn (d : Int)), Value.slice a1 (lms (d : Int)).length c1] 40)).heap.size := by simp only [World.size_alloc]; omega
  have kd0 : (w2.alloc (Obj.cells #[Value.bool (sgn (d : Int)), Value.slice a1 (lms (d : Int)).length c1] 40)).cell? ⟨w2.heap.size, 0, none⟩ = some (Value.bool (sgn (d : Int))) := by go_simp
  have kd1 : (w2.alloc (Obj.cells #[Value.bool (sgn (d : Int)), Value.slice a1 (lms (d : Int)).length c1] 40)).cell? ⟨w2.heap.size, 1, none⟩ = some (Value.slice a1 (lms (d : Int)).length c1) := by go_simp
  have hbn := (bl_alloc (bl_refl w2) (Obj.cells #[Value.bool (sgn (d : Int)), Value.slice a1 (lms (d : Int)).length c1] 40))
  replace kr0 := (hbn.cell (p := ⟨w.heap.size, 0, none⟩) (by dsimp only; omega)).trans kr0
  replace fr0 := (hbn.frozen (p := ⟨w.heap.size, 0, none⟩) (by dsimp only; omega)).trans fr0
  replace kr1 := (hbn.cell (p := ⟨w.heap.size, 1, none⟩) (by dsimp only; omega)).trans kr1
  replace fr1 := (hbn.frozen (p := ⟨w.heap.size, 1, none⟩) (by dsimp only; omega)).trans fr1
  replace kr2 := (hbn.cell (p := ⟨w.heap.size, 2, none⟩) (by dsimp only; omega)).trans kr2
  replace fr2 := (hbn.frozen (p := ⟨w.heap.size, 2, none⟩) (by dsimp only; omega)).trans fr2
  replace kr3 := (hbn.cell (p := ⟨w.heap.size, 3, none⟩) (by dsimp only; omega)).trans kr3
  replace fr3 := (hbn.frozen (p := ⟨w.heap.size, 3, none⟩) (by dsimp only; omega)).trans fr3
  replace S1 := hide (S1.out.below hbn)
  replace zr := Nat.lt_of_lt_of_le zr hbn.size
  replace HB := hide (bl_trans HB.out hbn)
  clear hbn
  go_wp2_with fail
  generalize (w2.alloc (Obj.cells #[Value.bool (sgn (d : Int)), Value.slice a1 (lms (d : Int)).length c1] 40)) = w3 at *
  refine (runS1 s i _ (by omega) hs).mono ?_
  rw [HJ'.out]
  rintro e w' ⟨rfl, hw⟩
  subst w'
  have hdl : ((((lms (d : Int)).length : Nat) : Int) == 0) = false := by rw [beq_eq_false_iff_ne]; intro e; exact HZ.out (by have := sgn_lms_nil (z := (d : Int)) (by omega); omega)
  go_wp2_with fail
  have hws : (s.extract 0 i).size ≤ 400 := by rw [ByteArray.size_extract]; omega
  have hl2 : (lms (valN (s.extract 0 i).data.toList : Int)).length ≤ 200 := lms_short HDW'.out (by rw [bsize]; exact hws)
  have hd0 : (d : Int) ≠ 0 := by have := HZ.out; omega
  obtain ⟨x, hx⟩ : ∃ x, valN (s.extract 0 i).data.toList = x := ⟨_, rfl⟩
  rw [hx] at HO' hl2
  have HX := hide hx
  clear hx
  go_region_with
    (first
      | (go_at_call 77; refine (digitsS (s.extract 0 i) _ HDW'.out hws).mono ?_; rw [HX.out]; rintro e wA ⟨vA, rfl, ⟨aA, cA, rfl, hoA⟩, hbAr⟩; have hbA : Below w3.heap.size w3 wA := (bl_refl w3).drew.trans hbAr; have yA := hbA.size; have kd0 := (hbAr.cell (p := ⟨w2.heap.size, 0, none⟩) (by dsimp only; rw [World.size_drew]; omega)).trans kd0; have kd1 := (hbAr.cell (p := ⟨w2.heap.size, 1, none⟩) (by dsimp only; rw [World.size_drew]; omega)).trans kd1; have kr0 := (hbA.cell (p := ⟨w.heap.size, 0, none⟩) (by dsimp only; omega)).trans kr0; have fr0 := (hbA.frozen (p := ⟨w.heap.size, 0, none⟩) (by dsimp only; omega)).trans fr0; have kr1 := (hbA.cell (p := ⟨w.heap.size, 1, none⟩) (by dsimp only; omega)).trans kr1; have fr1 := (hbA.frozen (p := ⟨w.heap.size, 1, none⟩) (by dsimp only; omega)).trans fr1; have kr2 := (hbA.cell (p := ⟨w.heap.size, 2, none⟩) (by dsimp only; omega)).trans kr2; have fr2 := (hbA.frozen (p := ⟨w.heap.size, 2, none⟩) (by dsimp only; omega)).trans fr2; have kr3 := (hbA.cell (p := ⟨w.heap.size, 3, none⟩) (by dsimp only; omega)).trans kr3; have fr3 := (hbA.frozen (p := ⟨w.heap.size, 3, none⟩) (by dsimp only; omega)).trans fr3)
      | (go_at_call 17; refine (makeR (x : Int) (d : Int) aA cA a1 c1 _ hoA.seg (S1.out.below hbA) hd0 (by omega) (by omega)).mono ?_; rintro e wB ⟨d1, f1, d2, f2, rfl, hu1, hu2, hap, hbBr⟩; have hbB : Below w3.heap.size w3 wB := bl_trans hbA hbBr; have yB := hbBr.size; have kr0 := (hbBr.cell (p := ⟨w.heap.size, 0, none⟩) (by dsimp only; omega)).trans kr0; have fr0 := (hbBr.frozen (p := ⟨w.heap.size, 0, none⟩) (by dsimp only; omega)).trans fr0; have kr1 := (hbBr.cell (p := ⟨w.heap.size, 1, none⟩) (by dsimp only; omega)).trans kr1; have fr1 := (hbBr.frozen (p := ⟨w.heap.size, 1, none⟩) (by dsimp only; omega)).trans fr1; have kr2 := (hbBr.cell (p := ⟨w.heap.size, 2, none⟩) (by dsimp only; omega)).trans kr2; have fr2 := (hbBr.frozen (p := ⟨w.heap.size, 2, none⟩) (by dsimp only; omega)).trans fr2; have kr3 := (hbBr.cell (p := ⟨w.heap.size, 3, none⟩) (by dsimp only; omega)).trans kr3; have fr3 := (hbBr.frozen (p := ⟨w.heap.size, 3, none⟩) (by dsimp only; omega)).trans fr3; have HO1 := hide hu1; have HO2 := hide hu2; have HAP := hide hap; clear hu1 hu2 hap))
  all_goals go_wp2
  all_goals refine bodyPost_ret (v := .tuple #[Value.agg #[Value.bool (sgn ((x : Int) / sgG (x : Int) (d : Int))), Value.slice d1 (lms ((x : Int) / sgG (x : Int) (d : Int))).length f1, Value.bool (sgn ((d : Int) / sgG (x : Int) (d : Int))), Value.slice d2 (lms ((d : Int) / sgG (x : Int) (d : Int))).length f2], .bool true]) (by simp [results, Tryz.results44, go_sem, kr0, kr1, kr2, kr3]) rfl ?_
  all_goals have h1 := own_four' (lo := w.heap.size) HO1.out (show w.heap.size < _ by omega) (by omega) (Value.bool (sgn ((x : Int) / sgG (x : Int) (d : Int)))) (Value.slice d1 (lms ((x : Int) / sgG (x : Int) (d : Int))).length f1) (Value.bool (sgn ((d : Int) / sgG (x : Int) (d : Int)))) (Value.slice d2 (lms ((d : Int) / sgG (x : Int) (d : Int))).length f2)
  all_goals have h2 := own_four' (lo := w.heap.size) HO2.out (show w.heap.size < _ by omega) (by omega) (Value.bool (sgn ((x : Int) / sgG (x : Int) (d : Int)))) (Value.slice d1 (lms ((x : Int) / sgG (x : Int) (d : Int))).length f1) (Value.bool (sgn ((d : Int) / sgG (x : Int) (d : Int)))) (Value.slice d2 (lms ((d : Int) / sgG (x : Int) (d : Int))).length f2)
  all_goals exact raw_yes HO'.out rfl rfl h1 h2 HAP.out (set_four (Nat.le_refl _) (bl_trans HB.out hbB) _ _ _ _)

set_option maxHeartbeats 4000000 in
set_option maxRecDepth 20000 in
theorem rdD1 (s : ByteArray) (i j : Nat) (o : Option (Nat × Nat)) (w : World) (hs : s.size ≤ 400) (hI : runN s 0 = i) (hi : 0 < i) (hil : i < s.size) (h47 : ((s[i].toNat : Int) == 47) = false) (hdw : digAll (s.extract 0 i).data.toList = true) (ho : o = decS' (s.extract 0 i).data.toList (s.extract i s.size).data.toList) :
    Calls Tryz.prog 44 #[.string s] w fun e w' => RawAns o w w' e := by
  have HI' := hide hI
  have HDW' := hide hdw
  have HO' := hide ho
  clear hI hdw ho
  have hi' : ¬ (i : Int) = 0 := by omega
  have hi2 : ((i : Int) == 0) = false := by rw [beq_eq_false_iff_ne]; exact hi'
  have hi3 : (0 : Int) ≤ (i : Int) := by omega
  have hil' : (i : Int) < (s.size : Int) := by omega
  have hil2 : (i : Int) ≤ (s.size : Int) := by omega
  have kr0 : (w.alloc (Obj.cells #[Value.bool false, Value.slice none 0 0, Value.bool false, Value.slice none 0 0] 42)).cell? ⟨w.heap.size, 0, none⟩ = some (Value.bool false) := by go_simp
  have fr0 : (w.alloc (Obj.cells #[Value.bool false, Value.slice none 0 0, Value.bool false, Value.slice none 0 0] 42)).frozen? ⟨w.heap.size, 0, none⟩ = false := by go_simp
  have kr1 : (w.alloc (Obj.cells #[Value.bool false, Value.slice none 0 0, Value.bool false, Value.slice none 0 0] 42)).cell? ⟨w.heap.size, 1, none⟩ = some (Value.slice none 0 0) := by go_simp
  have fr1 : (w.alloc (Obj.cells #[Value.bool false, Value.slice none 0 0, Value.bool false, Value.slice none 0 0] 42)).frozen? ⟨w.heap.size, 1, none⟩ = false := by go_simp
  have kr2 : (w.alloc (Obj.cells #[Value.bool false, Value.slice none 0 0, Value.bool false, Value.slice none 0 0] 42)).cell? ⟨w.heap.size, 2, none⟩ = some (Value.bool false) := by go_simp
  have fr2 : (w.alloc (Obj.cells #[Value.bool false, Value.slice none 0 0, Value.bool false, Value.slice none 0 0] 42)).frozen? ⟨w.heap.size, 2, none⟩ = false := by go_simp
  have kr3 : (w.alloc (Obj.cells #[Value.bool false, Value.slice none 0 0, Value.bool false, Value.slice none 0 0] 42)).cell? ⟨w.heap.size, 3, none⟩ = some (Value.slice none 0 0) := by go_simp
  have fr3 : (w.alloc (Obj.cells #[Value.bool false, Value.slice none 0 0, Value.bool false, Value.slice none 0 0] 42)).frozen? ⟨w.heap.size, 3, none⟩ = false := by go_simp
  have zr : w.heap.size < (w.alloc (Obj.cells #[Value.bool false, Value.slice none 0 0, Value.bool false, Value.slice none 0 0] 42)).heap.size := by simp only [World.size_alloc]; omega
  have HB := hide (bl_alloc (bl_refl w) (Obj.cells #[Value.bool false, Value.slice none 0 0, Value.bool false, Value.slice none 0 0] 42))
  go_enter Tryz.func44, Tryz.ntmps44
  go_wp2_with fail
  generalize (w.alloc (Obj.cells #[Value.bool false, Value.slice none 0 0, Value.bool false, Value.slice none 0 0] 42)) = w1 at *
  have z0 := zr
  refine (runS s 0 _ (Nat.zero_le _) hs).mono ?_
  rw [HI'.out]
  rintro e w' ⟨rfl, hw⟩
  subst w'
  go_wp2_with fail
  skip
  have hA4 : (s.extract 0 i).size + (s.extract i s.size).size ≤ 400 := by rw [ByteArray.size_extract, ByteArray.size_extract]; omega
  obtain ⟨X, hX⟩ : ∃ X, rwN o = X := ⟨_, rfl⟩
  obtain ⟨Y, hY⟩ : ∃ Y, rwD o = Y := ⟨_, rfl⟩
  obtain ⟨F, hF⟩ : ∃ F, o.isSome = F := ⟨_, rfl⟩
  have HXY := hide (And.intro hX (And.intro hY hF))
  clear hX hY hF
  go_region_with
    (first
      | (go_at_call 78; refine (decimalS (s.extract 0 i) (s.extract i s.size) _ HDW'.out hA4).mono ?_; rw [← HO'.out]; unfold RawAns; rw [HXY.out.1, HXY.out.2.1, HXY.out.2.2]; rintro e wA ⟨d1, f1, d2, f2, rfl, hu1, hu2, hap, hbAr⟩; have hbA : Below w1.heap.size w1 wA := (bl_refl w1).drew.trans hbAr; have yA := hbA.size; have kr0 := (hbA.cell (p := ⟨w.heap.size, 0, none⟩) (by dsimp only; omega)).trans kr0; have fr0 := (hbA.frozen (p := ⟨w.heap.size, 0, none⟩) (by dsimp only; omega)).trans fr0; have kr1 := (hbA.cell (p := ⟨w.heap.size, 1, none⟩) (by dsimp only; omega)).trans kr1; have fr1 := (hbA.frozen (p := ⟨w.heap.size, 1, none⟩) (by dsimp only; omega)).trans fr1; have kr2 := (hbA.cell (p := ⟨w.heap.size, 2, none⟩) (by dsimp only; omega)).trans kr2; have fr2 := (hbA.frozen (p := ⟨w.heap.size, 2, none⟩) (by dsimp only; omega)).trans fr2; have kr3 := (hbA.cell (p := ⟨w.heap.size, 3, none⟩) (by dsimp only; omega)).trans kr3; have fr3 := (hbA.frozen (p := ⟨w.heap.size, 3, none⟩) (by dsimp only; omega)).trans fr3; have HO1 := hide hu1; have HO2 := hide hu2; have HAP := hide hap; clear hu1 hu2 hap))
  all_goals go_wp2
  all_goals refine bodyPost_ret (v := .tuple #[Value.agg #[Value.bool (sgn X), Value.slice d1 (lms X).length f1, Value.bool (sgn Y), Value.slice d2 (lms Y).length f2], .bool F]) (by simp [results, Tryz.results44, go_sem, kr0, kr1, kr2, kr3]) rfl ?_
  all_goals have h1 := own_four' (lo := w.heap.size) HO1.out (show w.heap.size < _ by first | omega | (rw [World.size_drew]; omega)) (by first | omega | (rw [World.size_drew]; omega)) (Value.bool (sgn X)) (Value.slice d1 (lms X).length f1) (Value.bool (sgn Y)) (Value.slice d2 (lms Y).length f2)
  all_goals have h2 := own_four' (lo := w.heap.size) HO2.out (show w.heap.size < _ by first | omega | (rw [World.size_drew]; omega)) (by first | omega | (rw [World.size_drew]; omega)) (Value.bool (sgn X)) (Value.slice d1 (lms X).length f1) (Value.bool (sgn Y)) (Value.slice d2 (lms Y).length f2)
  all_goals show RawAns o w _ _
  all_goals unfold RawAns
  all_goals rw [HXY.out.1, HXY.out.2.1, HXY.out.2.2]
  all_goals exact ⟨d1, f1, d2, f2, rfl, h1, h2, HAP.out, set_four (Nat.le_refl _) (bl_trans HB.out hbA) _ _ _ _⟩

set_option maxHeartbeats 4000000 in
set_option maxRecDepth 20000 in
theorem rdD2 (s : ByteArray) (i j : Nat) (o : Option (Nat × Nat)) (w : World) (hs : s.size ≤ 400) (hI : runN s 0 = i) (hi : 0 < i) (hil : i = s.size) (hdw : digAll (s.extract 0 i).data.toList = true) (ho : o = decS' (s.extract 0 i).data.toList (s.extract i s.size).data.toList) :
    Calls Tryz.prog 44 #[.string s] w fun e w' => RawAns o w w' e := by
  have HI' := hide hI
  have HDW' := hide hdw
  have HO' := hide ho
  clear hI hdw ho
  have hi' : ¬ (i : Int) = 0 := by omega
  have hi2 : ((i : Int) == 0) = false := by rw [beq_eq_false_iff_ne]; exact hi'
  have hi3 : (0 : Int) ≤ (i : Int) := by omega
  have hil' : ¬ (i : Int) < (s.size : Int) := by omega
  have hil2 : (i : Int) ≤ (s.size : Int) := by omega
  clear hil
  have kr0 : (w.alloc (Obj.cells #[Value.bool false, Value.slice none 0 0, Value.bool false, Value.slice none 0 0] 42)).cell? ⟨w.heap.size, 0, none⟩ = some (Value.bool false) := by go_simp
  have fr0 : (w.alloc (Obj.cells #[Value.bool false, Value.slice none 0 0, Value.bool false, Value.slice none 0 0] 42)).frozen? ⟨w.heap.size, 0, none⟩ = false := by go_simp
  have kr1 : (w.alloc (Obj.cells #[Value.bool false, Value.slice none 0 0, Value.bool false, Value.slice none 0 0] 42)).cell? ⟨w.heap.size, 1, none⟩ = some (Value.slice none 0 0) := by go_simp
  have fr1 : (w.alloc (Obj.cells #[Value.bool false, Value.slice none 0 0, Value.bool false, Value.slice none 0 0] 42)).frozen? ⟨w.heap.size, 1, none⟩ = false := by go_simp
  have kr2 : (w.alloc (Obj.cells #[Value.bool false, Value.slice none 0 0, Value.bool false, Value.slice none 0 0] 42)).cell? ⟨w.heap.size, 2, none⟩ = some (Value.bool false) := by go_simp
  have fr2 : (w.alloc (Obj.cells #[Value.bool false, Value.slice none 0 0, Value.bool false, Value.slice none 0 0] 42)).frozen? ⟨w.heap.size, 2, none⟩ = false := by go_simp
  have kr3 : (w.alloc (Obj.cells #[Value.bool false, Value.slice none 0 0, Value.bool false, Value.slice none 0 0] 42)).cell? ⟨w.heap.size, 3, none⟩ = some (Value.slice none 0 0) := by go_simp
  have fr3 : (w.alloc (Obj.cells #[Value.bool false, Value.slice none 0 0, Value.bool false, Value.slice none 0 0] 42)).frozen? ⟨w.heap.size, 3, none⟩ = false := by go_simp
  have zr : w.heap.size < (w.alloc (Obj.cells #[Value.bool false, Value.slice none 0 0, Value.bool false, Value.slice none 0 0] 42)).heap.size := by simp only [World.size_alloc]; omega
  have HB := hide (bl_alloc (bl_refl w) (Obj.cells #[Value.bool false, Value.slice none 0 0, Value.bool false, Value.slice none 0 0] 42))
  go_enter Tryz.func44, Tryz.ntmps44
  go_wp2_with fail
  generalize (w.alloc (Obj.cells #[Value.bool false, Value.slice none 0 0, Value.bool false, Value.slice none 0 0] 42)) = w1 at *
  have z0 := zr
  refine (runS s 0 _ (Nat.zero_le _) hs).mono ?_
  rw [HI'.out]
  rintro e w' ⟨rfl, hw⟩
  subst w'
  go_wp2_with fail
  skip
  have hA4 : (s.extract 0 i).size + (s.extract i s.size).size ≤ 400 := by rw [ByteArray.size_extract, ByteArray.size_extract]; omega
  obtain ⟨X, hX⟩ : ∃ X, rwN o = X := ⟨_, rfl⟩
  obtain ⟨Y, hY⟩ : ∃ Y, rwD o = Y := ⟨_, rfl⟩
  obtain ⟨F, hF⟩ : ∃ F, o.isSome = F := ⟨_, rfl⟩
  have HXY := hide (And.intro hX (And.intro hY hF))
  clear hX hY hF
  go_region_with
    (first
      | (go_at_call 78; refine (decimalS (s.extract 0 i) (s.extract i s.size) _ HDW'.out hA4).mono ?_; rw [← HO'.out]; unfold RawAns; rw [HXY.out.1, HXY.out.2.1, HXY.out.2.2]; rintro e wA ⟨d1, f1, d2, f2, rfl, hu1, hu2, hap, hbAr⟩; have hbA : Below w1.heap.size w1 wA := (bl_refl w1).drew.trans hbAr; have yA := hbA.size; have kr0 := (hbA.cell (p := ⟨w.heap.size, 0, none⟩) (by dsimp only; omega)).trans kr0; have fr0 := (hbA.frozen (p := ⟨w.heap.size, 0, none⟩) (by dsimp only; omega)).trans fr0; have kr1 := (hbA.cell (p := ⟨w.heap.size, 1, none⟩) (by dsimp only; omega)).trans kr1; have fr1 := (hbA.frozen (p := ⟨w.heap.size, 1, none⟩) (by dsimp only; omega)).trans fr1; have kr2 := (hbA.cell (p := ⟨w.heap.size, 2, none⟩) (by dsimp only; omega)).trans kr2; have fr2 := (hbA.frozen (p := ⟨w.heap.size, 2, none⟩) (by dsimp only; omega)).trans fr2; have kr3 := (hbA.cell (p := ⟨w.heap.size, 3, none⟩) (by dsimp only; omega)).trans kr3; have fr3 := (hbA.frozen (p := ⟨w.heap.size, 3, none⟩) (by dsimp only; omega)).trans fr3; have HO1 := hide hu1; have HO2 := hide hu2; have HAP := hide hap; clear hu1 hu2 hap))
  all_goals go_wp2
  all_goals refine bodyPost_ret (v := .tuple #[Value.agg #[Value.bool (sgn X), Value.slice d1 (lms X).length f1, Value.bool (sgn Y), Value.slice d2 (lms Y).length f2], .bool F]) (by simp [results, Tryz.results44, go_sem, kr0, kr1, kr2, kr3]) rfl ?_
  all_goals have h1 := own_four' (lo := w.heap.size) HO1.out (show w.heap.size < _ by first | omega | (rw [World.size_drew]; omega)) (by first | omega | (rw [World.size_drew]; omega)) (Value.bool (sgn X)) (Value.slice d1 (lms X).length f1) (Value.bool (sgn Y)) (Value.slice d2 (lms Y).length f2)
  all_goals have h2 := own_four' (lo := w.heap.size) HO2.out (show w.heap.size < _ by first | omega | (rw [World.size_drew]; omega)) (by first | omega | (rw [World.size_drew]; omega)) (Value.bool (sgn X)) (Value.slice d1 (lms X).length f1) (Value.bool (sgn Y)) (Value.slice d2 (lms Y).length f2)
  all_goals show RawAns o w _ _
  all_goals unfold RawAns
  all_goals rw [HXY.out.1, HXY.out.2.1, HXY.out.2.2]
  all_goals exact ⟨d1, f1, d2, f2, rfl, h1, h2, HAP.out, set_four (Nat.le_refl _) (bl_trans HB.out hbA) _ _ _ _⟩
end Go.Proofs.YtkemplmhemnpbaaGreatDoor

/- l03Read of the specification at any text. -/
namespace Go.Proofs.YtkemplmhemnpbaaGreatDoor
open Go.RowKit
set_option linter.unusedVariables false

theorem run_zero (s : ByteArray) : runN s 0 = (s.data.toList.takeWhile dg).length := by
  unfold runN; rw [List.drop_zero, Nat.zero_add]
theorem readS0 (s : ByteArray) (w : World) (hs : s.size ≤ 400) :
    Calls Tryz.prog 44 #[.string s] w fun e w' => RawAns (rrS s.data.toList) w w' e := by
  obtain ⟨i, hI⟩ : ∃ i, runN s 0 = i := ⟨_, rfl⟩
  have hIl := run_zero s
  rw [hI] at hIl
  have hIs := (run_le (s := s) (k := 0) (Nat.zero_le _)).2
  rw [hI] at hIs
  have hW : (s.extract 0 i).data.toList = s.data.toList.takeWhile dg := by
    rw [ext_list, List.drop_zero, Nat.sub_zero, hIl, tw_take]
  have hD : (s.extract i s.size).data.toList = s.data.toList.dropWhile dg := by
    rw [ext_tail, hIl, tw_drop]
  have hWd : digAll (s.extract 0 i).data.toList = true := by rw [hW]; exact tw_dig _
  unfold rrS
  by_cases h0 : s.data.toList.takeWhile dg = []
  · rw [if_pos h0]
    exact rdF1 s i 0 _ w hs hI (by rw [hIl, h0]; rfl) rfl
  rw [if_neg h0]
  have hi0 : 0 < i := by rw [hIl]; exact List.length_pos_iff.2 h0
  have hDs : (s.extract i s.size).size = s.size - i := by rw [ByteArray.size_extract]; omega
  rw [← hW]
  cases hr : s.data.toList.dropWhile dg with
  | nil =>
    have hil : i = s.size := by
      have : (s.extract i s.size).size = 0 := by rw [← bsize, hD, hr]; rfl
      omega
    exact rdD2 s i 0 _ w hs hI hi0 hil hWd (by rw [hD, hr]; rfl)
  | cons c t =>
    rw [hr] at hD
    have hp := size_pos hD
    have hil : i < s.size := by omega
    have hat : s[i] = c ∧ s.data.toList.drop (i + 1) = t := by
      have h1 := drop_at s i hil
      have h2 := ext_tail s i
      rw [hD, h1] at h2
      exact ⟨(List.cons.inj h2).1.symm, (List.cons.inj h2).2.symm⟩
    by_cases h47 : c = 47
    · have h47i : (s[i].toNat : Int) = 47 := by rw [hat.1, h47]; rfl
      obtain ⟨j, hJ⟩ : ∃ j, runN s (i + 1) = j := ⟨_, rfl⟩
      have hJl : j = i + 1 + (t.takeWhile dg).length := by rw [← hJ]; unfold runN; rw [hat.2]
      have hJs := run_le (s := s) (k := i + 1) hil
      rw [hJ] at hJs
      have hT : (s.extract (i + 1) j).data.toList = t.takeWhile dg := by
        rw [ext_list, hat.2, show j - (i + 1) = (t.takeWhile dg).length by omega, tw_take]
      have hTd : digAll (s.extract (i + 1) j).data.toList = true := by rw [hT]; exact tw_dig _
      have htl : t.length = s.size - (i + 1) := by rw [← hat.2, List.length_drop, bsize]
      have hs2 : readS' (s.extract 0 i).data.toList (c :: t) = if (digAll t && decide (valN t ≠ 0)) = true then some (valN (s.extract 0 i).data.toList, valN t) else none := by simp only [readS']; rw [if_pos h47]
      rw [hs2]
      cases hdt : digAll t with
      | false =>
        rw [Bool.false_and, if_neg (by decide)]
        refine rdF2 s i j _ w hs hI hi0 hil h47i hJ hJs.1 hJs.2 hTd ?_ rfl
        have : (t.takeWhile dg).length < t.length := by
          have hle : (t.takeWhile dg).length ≤ t.length := (List.takeWhile_sublist dg).length_le
          rcases Nat.lt_or_ge (t.takeWhile dg).length t.length with h | h
          · exact h
          · have := tw_take dg t
            rw [List.take_of_length_le h] at this
            have h2 := tw_dig t
            rw [← this, hdt] at h2; cases h2
        omega
      | true =>
        have htt := (take_all hdt).1
        rw [htt] at hT hJl
        rw [Bool.true_and]
        by_cases hz : valN t = 0
        · rw [decide_eq_false (by simpa using hz), if_neg (by decide)]
          exact rdF3 s i j _ w hs hI hi0 hil h47i hJ hJs.1 hJs.2 hTd (by omega) (by rw [hT]; exact hz) rfl
        · rw [decide_eq_true hz, if_pos rfl]
          exact rdY1 s i j _ w hs hI hi0 hil h47i hJ hJs.1 hJs.2 hTd (by omega) (by rw [hT]; exact hz) hWd (by rw [hT])
    · have hs2 : readS' (s.extract 0 i).data.toList (c :: t) = decS' (s.extract 0 i).data.toList (c :: t) := by simp only [readS']; rw [if_neg h47]
      rw [hs2]
      exact rdD1 s i 0 _ w hs hI hi0 hil (by rw [hat.1]; exact b_no (d := 47) h47) hWd (by rw [hD])
/-- the lower number is not nought -/
theorem decV_no {ds : List UInt8} {k : Int} : (decV ds k).2 ≠ 0 := by
  unfold decV
  split
  · exact Nat.pos_iff_ne_zero.1 (Nat.pow_pos (by decide))
  · exact Nat.one_ne_zero
theorem endS_nz {ds : List UInt8} {k : Int} {p : Nat × Nat} : ∀ {r : List UInt8}, endS ds k r = some p → p.2 ≠ 0
  | [], h => by rw [← Option.some.inj h]; exact decV_no
  | c :: t, h => by
    simp only [endS] at h
    split at h
    · cases hx : expV t with
      | none => rw [hx] at h; cases h
      | some n => rw [hx] at h; rw [← Option.some.inj h]; exact decV_no
    · cases h
theorem decS_nz {ds : List UInt8} {p : Nat × Nat} : ∀ {r : List UInt8}, decS' ds r = some p → p.2 ≠ 0
  | [], h => by simp only [decS'] at h; exact endS_nz h
  | c :: t, h => by
    simp only [decS'] at h
    split at h
    · split at h
      · cases h
      · exact endS_nz h
    · exact endS_nz h
theorem rrS_nz {l : List UInt8} {p : Nat × Nat} (h : rrS l = some p) : p.2 ≠ 0 := by
  unfold rrS at h
  split at h
  · cases h
  · revert h
    generalize l.takeWhile dg = w
    generalize l.dropWhile dg = r
    intro h
    cases r with
    | nil => simp only [readS'] at h; exact decS_nz h
    | cons c t =>
      simp only [readS'] at h
      split at h
      · split at h
        · rename_i hc
          rw [Bool.and_eq_true, decide_eq_true_eq] at hc
          rw [← Option.some.inj h]; exact hc.2
        · cases h
      · exact decS_nz h
end Go.Proofs.YtkemplmhemnpbaaGreatDoor

/- The walk of the specification's ReadRat. -/
namespace Go.Proofs.YtkemplmhemnpbaaGreatDoor
open Go.RowKit
set_option linter.unusedVariables false

theorem fitS_t (p q : Int) (a : Option Addr) (c : Nat) (b : Option Addr) (d : Nat) (w : World) (s1 : Seg w a (lms p).length c (lms p)) (s2 : Seg w b (lms q).length d (lms q)) (h : ftT p q = true) :
    Calls Tryz.prog 45 #[.agg #[.bool (sgn p), .slice a (lms p).length c, .bool (sgn q), .slice b (lms q).length d]] w fun e w' => e = .returned (.tuple #[.agg #[.bool (sgn p), .slice a (lms p).length c, .bool (sgn q), .slice b (lms q).length d], .bool true]) ∧ Below w.heap.size w w' := by
  have := fitS p q a c b d w s1 s2
  rw [ftV_t h, h] at this
  exact this
theorem fitS_f (p q : Int) (a : Option Addr) (c : Nat) (b : Option Addr) (d : Nat) (w : World) (s1 : Seg w a (lms p).length c (lms p)) (s2 : Seg w b (lms q).length d (lms q)) (h : ftT p q = false) :
    Calls Tryz.prog 45 #[.agg #[.bool (sgn p), .slice a (lms p).length c, .bool (sgn q), .slice b (lms q).length d]] w fun e w' => e = .returned (.tuple #[.agg #[.bool false, .slice none 0 0, .bool false, .slice none 0 0], .bool false]) ∧ Below w.heap.size w w' := by
  have := fitS p q a c b d w s1 s2
  rw [ftV_f h, h] at this
  exact this

set_option maxHeartbeats 4000000 in
set_option maxRecDepth 20000 in
theorem rzL (s D : ByteArray) (o : Option (Nat × Nat)) (P Q : Int) (w : World) (hs : 400 < s.size) :
    Calls Tryz.prog 22 #[.string s] w fun e w' => e = .returned (.tuple #[.agg #[.bool false, .slice none 0 0, .bool false, .slice none 0 0], .bool false]) ∧ Below w.heap.size w w' := by
  have hs' : (400 : Int) < (s.size : Int) := by omega
  have kr0 : (w.alloc (Obj.cells #[Value.bool false, Value.slice none 0 0, Value.bool false, Value.slice none 0 0] 42)).cell? ⟨w.heap.size, 0, none⟩ = some (Value.bool false) := by go_simp
  have fr0 : (w.alloc (Obj.cells #[Value.bool false, Value.slice none 0 0, Value.bool false, Value.slice none 0 0] 42)).frozen? ⟨w.heap.size, 0, none⟩ = false := by go_simp
  have kr1 : (w.alloc (Obj.cells #[Value.bool false, Value.slice none 0 0, Value.bool false, Value.slice none 0 0] 42)).cell? ⟨w.heap.size, 1, none⟩ = some (Value.slice none 0 0) := by go_simp
  have fr1 : (w.alloc (Obj.cells #[Value.bool false, Value.slice none 0 0, Value.bool false, Value.slice none 0 0] 42)).frozen? ⟨w.heap.size, 1, none⟩ = false := by go_simp
  have kr2 : (w.alloc (Obj.cells #[Value.bool false, Value.slice none 0 0, Value.bool false, Value.slice none 0 0] 42)).cell? ⟨w.heap.size, 2, none⟩ = some (Value.bool false) := by go_simp
  have fr2 : (w.alloc (Obj.cells #[Value.bool false, Value.slice none 0 0, Value.bool false, Value.slice none 0 0] 42)).frozen? ⟨w.heap.size, 2, none⟩ = false := by go_simp
  have kr3 : (w.alloc (Obj.cells #[Value.bool false, Value.slice none 0 0, Value.bool false, Value.slice none 0 0] 42)).cell? ⟨w.heap.size, 3, none⟩ = some (Value.slice none 0 0) := by go_simp
  have fr3 : (w.alloc (Obj.cells #[Value.bool false, Value.slice none 0 0, Value.bool false, Value.slice none 0 0] 42)).frozen? ⟨w.heap.size, 3, none⟩ = false := by go_simp
  have zr : w.heap.size < (w.alloc (Obj.cells #[Value.bool false, Value.slice none 0 0, Value.bool false, Value.slice none 0 0] 42)).heap.size := by simp only [World.size_alloc]; omega
  have HB := hide (bl_alloc (bl_refl w) (Obj.cells #[Value.bool false, Value.slice none 0 0, Value.bool false, Value.slice none 0 0] 42))
  go_enter Tryz.func22, Tryz.ntmps22
  go_wp2
  refine bodyPost_ret (v := (.tuple #[.agg #[.bool false, .slice none 0 0, .bool false, .slice none 0 0], .bool false])) (by simp [results, Tryz.results22, go_sem, kr0, kr1, kr2, kr3]) rfl ?_
  exact ⟨rfl, HB.out⟩

set_option maxHeartbeats 4000000 in
set_option maxRecDepth 20000 in
theorem rzNN (s D : ByteArray) (o : Option (Nat × Nat)) (P Q : Int) (w : World) (hs : s.size ≤ 400) (ho : rrS D.data.toList = o) (hP : rwN o = P) (hQ : rwD o = Q) (hr : s.toList.isEmpty = false) (h1 : 0 < s.size) (h45 : (s[0].toNat : Int) = 45) (hx : s.extract 1 s.size = D) (hz : D.size + 1 = s.size) (hF : o.isSome = false) :
    Calls Tryz.prog 22 #[.string s] w fun e w' => e = .returned (.tuple #[.agg #[.bool false, .slice none 0 0, .bool false, .slice none 0 0], .bool false]) ∧ Below w.heap.size w w' := by
  have HO' := hide ho
  have HP' := hide hP
  have HQ' := hide hQ
  have HF' := hide hF
  clear ho hP hQ hF
  have hs' : ¬ (400 : Int) < (s.size : Int) := by omega
  have hD4 : D.size ≤ 400 := by omega
  clear hz
  have h1' : (1 : Int) ≤ (s.size : Int) := by omega
  have HX := hide hx
  clear hx
  have kr0 : (w.alloc (Obj.cells #[Value.bool false, Value.slice none 0 0, Value.bool false, Value.slice none 0 0] 42)).cell? ⟨w.heap.size, 0, none⟩ = some (Value.bool false) := by go_simp
  have fr0 : (w.alloc (Obj.cells #[Value.bool false, Value.slice none 0 0, Value.bool false, Value.slice none 0 0] 42)).frozen? ⟨w.heap.size, 0, none⟩ = false := by go_simp
  have kr1 : (w.alloc (Obj.cells #[Value.bool false, Value.slice none 0 0, Value.bool false, Value.slice none 0 0] 42)).cell? ⟨w.heap.size, 1, none⟩ = some (Value.slice none 0 0) := by go_simp
  have fr1 : (w.alloc (Obj.cells #[Value.bool false, Value.slice none 0 0, Value.bool false, Value.slice none 0 0] 42)).frozen? ⟨w.heap.size, 1, none⟩ = false := by go_simp
  have kr2 : (w.alloc (Obj.cells #[Value.bool false, Value.slice none 0 0, Value.bool false, Value.slice none 0 0] 42)).cell? ⟨w.heap.size, 2, none⟩ = some (Value.bool false) := by go_simp
  have fr2 : (w.alloc (Obj.cells #[Value.bool false, Value.slice none 0 0, Value.bool false, Value.slice none 0 0] 42)).frozen? ⟨w.heap.size, 2, none⟩ = false := by go_simp
  have kr3 : (w.alloc (Obj.cells #[Value.bool false, Value.slice none 0 0, Value.bool false, Value.slice none 0 0] 42)).cell? ⟨w.heap.size, 3, none⟩ = some (Value.slice none 0 0) := by go_simp
  have fr3 : (w.alloc (Obj.cells #[Value.bool false, Value.slice none 0 0, Value.bool false, Value.slice none 0 0] 42)).frozen? ⟨w.heap.size, 3, none⟩ = false := by go_simp
  have zr : w.heap.size < (w.alloc (Obj.cells #[Value.bool false, Value.slice none 0 0, Value.bool false, Value.slice none 0 0] 42)).heap.size := by simp only [World.size_alloc]; omega
  have HB := hide (bl_alloc (bl_refl w) (Obj.cells #[Value.bool false, Value.slice none 0 0, Value.bool false, Value.slice none 0 0] 42))
  go_enter Tryz.func22, Tryz.ntmps22
  go_wp2_with fail
  generalize (w.alloc (Obj.cells #[Value.bool false, Value.slice none 0 0, Value.bool false, Value.slice none 0 0] 42)) = w1 at *
  have z0 := zr
  rw [HX.out]
  refine (readS0 D _ hD4).mono ?_
  rw [HO'.out]
  unfold RawAns
  rw [HP'.out, HQ'.out, HF'.out]
  rintro e w2 ⟨a1, c1, a2, c2, rfl, ho1, ho2, hap, hb⟩
  have yw2 := hb.size
  replace kr0 := (hb.cell (p := ⟨w.heap.size, 0, none⟩) (by dsimp only; omega)).trans kr0
  replace fr0 := (hb.frozen (p := ⟨w.heap.size, 0, none⟩) (by dsimp only; omega)).trans fr0
  replace kr1 := (hb.cell (p := ⟨w.heap.size, 1, none⟩) (by dsimp only; omega)).trans kr1
  replace fr1 := (hb.frozen (p := ⟨w.heap.size, 1, none⟩) (by dsimp only; omega)).trans fr1
  replace kr2 := (hb.cell (p := ⟨w.heap.size, 2, none⟩) (by dsimp only; omega)).trans kr2
  replace fr2 := (hb.frozen (p := ⟨w.heap.size, 2, none⟩) (by dsimp only; omega)).trans fr2
  replace kr3 := (hb.cell (p := ⟨w.heap.size, 3, none⟩) (by dsimp only; omega)).trans kr3
  replace fr3 := (hb.frozen (p := ⟨w.heap.size, 3, none⟩) (by dsimp only; omega)).trans fr3
  replace zr := Nat.lt_of_lt_of_le zr hb.size
  replace HB := hide (bl_trans HB.out hb)
  clear hb
  have O1 := hide ho1
  have O2 := hide ho2
  have HAP := hide hap
  clear ho1 ho2 hap
  have yw3 : w2.heap.size + 1 ≤ (w2.alloc (Obj.cells #[Value.bool (sgn P), Value.slice a1 (lms P).length c1, Value.bool (sgn Q), Value.slice a2 (lms Q).length c2] 42)).heap.size := by simp only [World.size_alloc]; omega
  have hbn := (bl_alloc (bl_refl w2) (Obj.cells #[Value.bool (sgn P), Value.slice a1 (lms P).length c1, Value.bool (sgn Q), Value.slice a2 (lms Q).length c2] 42))
  replace kr0 := (hbn.cell (p := ⟨w.heap.size, 0, none⟩) (by dsimp only; omega)).trans kr0
  replace fr0 := (hbn.frozen (p := ⟨w.heap.size, 0, none⟩) (by dsimp only; omega)).trans fr0
  replace kr1 := (hbn.cell (p := ⟨w.heap.size, 1, none⟩) (by dsimp only; omega)).trans kr1
  replace fr1 := (hbn.frozen (p := ⟨w.heap.size, 1, none⟩) (by dsimp only; omega)).trans fr1
  replace kr2 := (hbn.cell (p := ⟨w.heap.size, 2, none⟩) (by dsimp only; omega)).trans kr2
  replace fr2 := (hbn.frozen (p := ⟨w.heap.size, 2, none⟩) (by dsimp only; omega)).trans fr2
  replace kr3 := (hbn.cell (p := ⟨w.heap.size, 3, none⟩) (by dsimp only; omega)).trans kr3
  replace fr3 := (hbn.frozen (p := ⟨w.heap.size, 3, none⟩) (by dsimp only; omega)).trans fr3
  replace O1 := hide (O1.out.below hbn)
  replace O2 := hide (O2.out.below hbn)
  replace zr := Nat.lt_of_lt_of_le zr hbn.size
  replace HB := hide (bl_trans HB.out hbn)
  clear hbn
  go_wp2
  refine bodyPost_ret (v := (.tuple #[.agg #[.bool false, .slice none 0 0, .bool false, .slice none 0 0], .bool false])) (by simp [results, Tryz.results22, go_sem, kr0, kr1, kr2, kr3]) rfl ?_
  exact ⟨rfl, set_four (Nat.le_refl _) HB.out _ _ _ _⟩

set_option maxHeartbeats 4000000 in
set_option maxRecDepth 20000 in
theorem rzNU (s D : ByteArray) (o : Option (Nat × Nat)) (P Q : Int) (w : World) (hs : s.size ≤ 400) (ho : rrS D.data.toList = o) (hP : rwN o = P) (hQ : rwD o = Q) (hr : s.toList.isEmpty = false) (h1 : 0 < s.size) (h45 : (s[0].toNat : Int) = 45) (hx : s.extract 1 s.size = D) (hz : D.size + 1 = s.size) (hF : o.isSome = true) (hf : ftT (-P) Q = false) (lP : (lms P).length ≤ 1000000) :
    Calls Tryz.prog 22 #[.string s] w fun e w' => e = .returned (.tuple #[.agg #[.bool false, .slice none 0 0, .bool false, .slice none 0 0], .bool false]) ∧ Below w.heap.size w w' := by
  have HO' := hide ho
  have HP' := hide hP
  have HQ' := hide hQ
  have HF' := hide hF
  have HFF := hide hf
  clear ho hP hQ hF hf
  have hs' : ¬ (400 : Int) < (s.size : Int) := by omega
  have hD4 : D.size ≤ 400 := by omega
  clear hz
  have h1' : (1 : Int) ≤ (s.size : Int) := by omega
  have HX := hide hx
  clear hx
  have kr0 : (w.alloc (Obj.cells #[Value.bool false, Value.slice none 0 0, Value.bool false, Value.slice none 0 0] 42)).cell? ⟨w.heap.size, 0, none⟩ = some (Value.bool false) := by go_simp
  have fr0 : (w.alloc (Obj.cells #[Value.bool false, Value.slice none 0 0, Value.bool false, Value.slice none 0 0] 42)).frozen? ⟨w.heap.size, 0, none⟩ = false := by go_simp
  have kr1 : (w.alloc (Obj.cells #[Value.bool false, Value.slice none 0 0, Value.bool false, Value.slice none 0 0] 42)).cell? ⟨w.heap.size, 1, none⟩ = some (Value.slice none 0 0) := by go_simp
  have fr1 : (w.alloc (Obj.cells #[Value.bool false, Value.slice none 0 0, Value.bool false, Value.slice none 0 0] 42)).frozen? ⟨w.heap.size, 1, none⟩ = false := by go_simp
  have kr2 : (w.alloc (Obj.cells #[Value.bool false, Value.slice none 0 0, Value.bool false, Value.slice none 0 0] 42)).cell? ⟨w.heap.size, 2, none⟩ = some (Value.bool false) := by go_simp
  have fr2 : (w.alloc (Obj.cells #[Value.bool false, Value.slice none 0 0, Value.bool false, Value.slice none 0 0] 42)).frozen? ⟨w.heap.size, 2, none⟩ = false := by go_simp
  have kr3 : (w.alloc (Obj.cells #[Value.bool false, Value.slice none 0 0, Value.bool false, Value.slice none 0 0] 42)).cell? ⟨w.heap.size, 3, none⟩ = some (Value.slice none 0 0) := by go_simp
  have fr3 : (w.alloc (Obj.cells #[Value.bool false, Value.slice none 0 0, Value.bool false, Value.slice none 0 0] 42)).frozen? ⟨w.heap.size, 3, none⟩ = false := by go_simp
  have zr : w.heap.size < (w.alloc (Obj.cells #[Value.bool false, Value.slice none 0 0, Value.bool false, Value.slice none 0 0] 42)).heap.size := by simp only [World.size_alloc]; omega
  have HB := hide (bl_alloc (bl_refl w) (Obj.cells #[Value.bool false, Value.slice none 0 0, Value.bool false, Value.slice none 0 0] 42))
  go_enter Tryz.func22, Tryz.ntmps22
  go_wp2_with fail
  generalize (w.alloc (Obj.cells #[Value.bool false, Value.slice none 0 0, Value.bool false, Value.slice none 0 0] 42)) = w1 at *
  have z0 := zr
  rw [HX.out]
  refine (readS0 D _ hD4).mono ?_
  rw [HO'.out]
  unfold RawAns
  rw [HP'.out, HQ'.out, HF'.out]
  rintro e w2 ⟨a1, c1, a2, c2, rfl, ho1, ho2, hap, hb⟩
  have yw2 := hb.size
  replace kr0 := (hb.cell (p := ⟨w.heap.size, 0, none⟩) (by dsimp only; omega)).trans kr0
  replace fr0 := (hb.frozen (p := ⟨w.heap.size, 0, none⟩) (by dsimp only; omega)).trans fr0
  replace kr1 := (hb.cell (p := ⟨w.heap.size, 1, none⟩) (by dsimp only; omega)).trans kr1
  replace fr1 := (hb.frozen (p := ⟨w.heap.size, 1, none⟩) (by dsimp only; omega)).trans fr1
  replace kr2 := (hb.cell (p := ⟨w.heap.size, 2, none⟩) (by dsimp only; omega)).trans kr2
  replace fr2 := (hb.frozen (p := ⟨w.heap.size, 2, none⟩) (by dsimp only; omega)).trans fr2
  replace kr3 := (hb.cell (p := ⟨w.heap.size, 3, none⟩) (by dsimp only; omega)).trans kr3
  replace fr3 := (hb.frozen (p := ⟨w.heap.size, 3, none⟩) (by dsimp only; omega)).trans fr3
  replace zr := Nat.lt_of_lt_of_le zr hb.size
  replace HB := hide (bl_trans HB.out hb)
  clear hb
  have O1 := hide ho1
  have O2 := hide ho2
  have HAP := hide hap
  clear ho1 ho2 hap
  have yw3 : w2.heap.size + 1 ≤ (w2.alloc (Obj.cells #[Value.bool (sgn P), Value.slice a1 (lms P).length c1, Value.bool (sgn Q), Value.slice a2 (lms Q).length c2] 42)).heap.size := by simp only [World.size_alloc]; omega
  have kd0 : (w2.alloc (Obj.cells #[Value.bool (sgn P), Value.slice a1 (lms P).length c1, Value.bool (sgn Q), Value.slice a2 (lms Q).length c2] 42)).cell? ⟨w2.heap.size, 0, none⟩ = some (Value.bool (sgn P)) := by go_simp
  have kd1 : (w2.alloc (Obj.cells #[Value.bool (sgn P), Value.slice a1 (lms P).length c1, Value.bool (sgn Q), Value.slice a2 (lms Q).length c2] 42)).cell? ⟨w2.heap.size, 1, none⟩ = some (Value.slice a1 (lms P).length c1) := by go_simp
  have kd2 : (w2.alloc (Obj.cells #[Value.bool (sgn P), Value.slice a1 (lms P).length c1, Value.bool (sgn Q), Value.slice a2 (lms Q).length c2] 42)).cell? ⟨w2.heap.size, 2, none⟩ = some (Value.bool (sgn Q)) := by go_simp
  have kd3 : (w2.alloc (Obj.cells #[Value.bool (sgn P), Value.slice a1 (lms P).length c1, Value.bool (sgn Q), Value.slice a2 (lms Q).length c2] 42)).cell? ⟨w2.heap.size, 3, none⟩ = some (Value.slice a2 (lms Q).length c2) := by go_simp
  have hbn := (bl_alloc (bl_refl w2) (Obj.cells #[Value.bool (sgn P), Value.slice a1 (lms P).length c1, Value.bool (sgn Q), Value.slice a2 (lms Q).length c2] 42))
  replace kr0 := (hbn.cell (p := ⟨w.heap.size, 0, none⟩) (by dsimp only; omega)).trans kr0
  replace fr0 := (hbn.frozen (p := ⟨w.heap.size, 0, none⟩) (by dsimp only; omega)).trans fr0
  replace kr1 := (hbn.cell (p := ⟨w.heap.size, 1, none⟩) (by dsimp only; omega)).trans kr1
  replace fr1 := (hbn.frozen (p := ⟨w.heap.size, 1, none⟩) (by dsimp only; omega)).trans fr1
  replace kr2 := (hbn.cell (p := ⟨w.heap.size, 2, none⟩) (by dsimp only; omega)).trans kr2
  replace fr2 := (hbn.frozen (p := ⟨w.heap.size, 2, none⟩) (by dsimp only; omega)).trans fr2
  replace kr3 := (hbn.cell (p := ⟨w.heap.size, 3, none⟩) (by dsimp only; omega)).trans kr3
  replace fr3 := (hbn.frozen (p := ⟨w.heap.size, 3, none⟩) (by dsimp only; omega)).trans fr3
  replace O1 := hide (O1.out.below hbn)
  replace O2 := hide (O2.out.below hbn)
  replace zr := Nat.lt_of_lt_of_le zr hbn.size
  replace HB := hide (bl_trans HB.out hbn)
  clear hbn
  go_wp2_with fail
  generalize (w2.alloc (Obj.cells #[Value.bool (sgn P), Value.slice a1 (lms P).length c1, Value.bool (sgn Q), Value.slice a2 (lms Q).length c2] 42)) = w3 at *
  refine (negRS P Q a1 c1 a2 c2 _ lP O1.out.seg O2.out.seg).mono ?_
  rintro e w4 ⟨u, v, rfl, hu, hb⟩
  have yw4 := hb.size
  have HAU := hide (Apart.symm (apart_own O2.out hu))
  replace kr0 := (hb.cell (p := ⟨w.heap.size, 0, none⟩) (by dsimp only; omega)).trans kr0
  replace fr0 := (hb.frozen (p := ⟨w.heap.size, 0, none⟩) (by dsimp only; omega)).trans fr0
  replace kr1 := (hb.cell (p := ⟨w.heap.size, 1, none⟩) (by dsimp only; omega)).trans kr1
  replace fr1 := (hb.frozen (p := ⟨w.heap.size, 1, none⟩) (by dsimp only; omega)).trans fr1
  replace kr2 := (hb.cell (p := ⟨w.heap.size, 2, none⟩) (by dsimp only; omega)).trans kr2
  replace fr2 := (hb.frozen (p := ⟨w.heap.size, 2, none⟩) (by dsimp only; omega)).trans fr2
  replace kr3 := (hb.cell (p := ⟨w.heap.size, 3, none⟩) (by dsimp only; omega)).trans kr3
  replace fr3 := (hb.frozen (p := ⟨w.heap.size, 3, none⟩) (by dsimp only; omega)).trans fr3
  replace kd0 := (hb.cell (p := ⟨w2.heap.size, 0, none⟩) (by dsimp only; omega)).trans kd0
  replace kd1 := (hb.cell (p := ⟨w2.heap.size, 1, none⟩) (by dsimp only; omega)).trans kd1
  replace kd2 := (hb.cell (p := ⟨w2.heap.size, 2, none⟩) (by dsimp only; omega)).trans kd2
  replace kd3 := (hb.cell (p := ⟨w2.heap.size, 3, none⟩) (by dsimp only; omega)).trans kd3
  replace O1 := hide (O1.out.below hb)
  replace O2 := hide (O2.out.below hb)
  replace zr := Nat.lt_of_lt_of_le zr hb.size
  replace HB := hide (bl_trans HB.out hb)
  clear hb
  have OU := hide hu
  clear hu
  go_wp2_with fail
  refine (fitS_f (-P) Q u v a2 c2 _ OU.out.seg O2.out.seg HFF.out).mono ?_
  rintro e w5 ⟨rfl, hb⟩
  have yw5 := hb.size
  replace kr0 := (hb.cell (p := ⟨w.heap.size, 0, none⟩) (by dsimp only; omega)).trans kr0
  replace fr0 := (hb.frozen (p := ⟨w.heap.size, 0, none⟩) (by dsimp only; omega)).trans fr0
  replace kr1 := (hb.cell (p := ⟨w.heap.size, 1, none⟩) (by dsimp only; omega)).trans kr1
  replace fr1 := (hb.frozen (p := ⟨w.heap.size, 1, none⟩) (by dsimp only; omega)).trans fr1
  replace kr2 := (hb.cell (p := ⟨w.heap.size, 2, none⟩) (by dsimp only; omega)).trans kr2
  replace fr2 := (hb.frozen (p := ⟨w.heap.size, 2, none⟩) (by dsimp only; omega)).trans fr2
  replace kr3 := (hb.cell (p := ⟨w.heap.size, 3, none⟩) (by dsimp only; omega)).trans kr3
  replace fr3 := (hb.frozen (p := ⟨w.heap.size, 3, none⟩) (by dsimp only; omega)).trans fr3
  replace kd0 := (hb.cell (p := ⟨w2.heap.size, 0, none⟩) (by dsimp only; omega)).trans kd0
  replace kd1 := (hb.cell (p := ⟨w2.heap.size, 1, none⟩) (by dsimp only; omega)).trans kd1
  replace kd2 := (hb.cell (p := ⟨w2.heap.size, 2, none⟩) (by dsimp only; omega)).trans kd2
  replace kd3 := (hb.cell (p := ⟨w2.heap.size, 3, none⟩) (by dsimp only; omega)).trans kd3
  replace O1 := hide (O1.out.below hb)
  replace O2 := hide (O2.out.below hb)
  replace OU := hide (OU.out.below hb)
  replace zr := Nat.lt_of_lt_of_le zr hb.size
  replace HB := hide (bl_trans HB.out hb)
  clear hb
  go_wp2
  refine bodyPost_ret (v := (.tuple #[.agg #[.bool false, .slice none 0 0, .bool false, .slice none 0 0], .bool false])) (by simp [results, Tryz.results22, go_sem, kr0, kr1, kr2, kr3]) rfl ?_
  exact ⟨rfl, set_four (Nat.le_refl _) HB.out _ _ _ _⟩

set_option maxHeartbeats 4000000 in
set_option maxRecDepth 20000 in
theorem rzNF (s D : ByteArray) (o : Option (Nat × Nat)) (P Q : Int) (w : World) (hs : s.size ≤ 400) (ho : rrS D.data.toList = o) (hP : rwN o = P) (hQ : rwD o = Q) (hr : s.toList.isEmpty = false) (h1 : 0 < s.size) (h45 : (s[0].toNat : Int) = 45) (hx : s.extract 1 s.size = D) (hz : D.size + 1 = s.size) (hF : o.isSome = true) (hf : ftT (-P) Q = true) (lP : (lms P).length ≤ 1000000) :
    Calls Tryz.prog 22 #[.string s] w fun e w' => ∃ b1 e1 b2 e2, e = .returned (.tuple #[.agg #[.bool (sgn (-P)), .slice b1 (lms (-P)).length e1, .bool (sgn Q), .slice b2 (lms Q).length e2], .bool true]) ∧ Own w' w.heap.size b1 (lms (-P)).length e1 (lms (-P)) ∧ Own w' w.heap.size b2 (lms Q).length e2 (lms Q) ∧ Apart b1 b2 ∧ Below w.heap.size w w' := by
  have HO' := hide ho
  have HP' := hide hP
  have HQ' := hide hQ
  have HF' := hide hF
  have HFF := hide hf
  clear ho hP hQ hF hf
  have hs' : ¬ (400 : Int) < (s.size : Int) := by omega
  have hD4 : D.size ≤ 400 := by omega
  clear hz
  have h1' : (1 : Int) ≤ (s.size : Int) := by omega
  have HX := hide hx
  clear hx
  have kr0 : (w.alloc (Obj.cells #[Value.bool false, Value.slice none 0 0, Value.bool false, Value.slice none 0 0] 42)).cell? ⟨w.heap.size, 0, none⟩ = some (Value.bool false) := by go_simp
  have fr0 : (w.alloc (Obj.cells #[Value.bool false, Value.slice none 0 0, Value.bool false, Value.slice none 0 0] 42)).frozen? ⟨w.heap.size, 0, none⟩ = false := by go_simp
  have kr1 : (w.alloc (Obj.cells #[Value.bool false, Value.slice none 0 0, Value.bool false, Value.slice none 0 0] 42)).cell? ⟨w.heap.size, 1, none⟩ = some (Value.slice none 0 0) := by go_simp
  have fr1 : (w.alloc (Obj.cells #[Value.bool false, Value.slice none 0 0, Value.bool false, Value.slice none 0 0] 42)).frozen? ⟨w.heap.size, 1, none⟩ = false := by go_simp
  have kr2 : (w.alloc (Obj.cells #[Value.bool false, Value.slice none 0 0, Value.bool false, Value.slice none 0 0] 42)).cell? ⟨w.heap.size, 2, none⟩ = some (Value.bool false) := by go_simp
  have fr2 : (w.alloc (Obj.cells #[Value.bool false, Value.slice none 0 0, Value.bool false, Value.slice none 0 0] 42)).frozen? ⟨w.heap.size, 2, none⟩ = false := by go_simp
  have kr3 : (w.alloc (Obj.cells #[Value.bool false, Value.slice none 0 0, Value.bool false, Value.slice none 0 0] 42)).cell? ⟨w.heap.size, 3, none⟩ = some (Value.slice none 0 0) := by go_simp
  have fr3 : (w.alloc (Obj.cells #[Value.bool false, Value.slice none 0 0, Value.bool false, Value.slice none 0 0] 42)).frozen? ⟨w.heap.size, 3, none⟩ = false := by go_simp
  have zr : w.heap.size < (w.alloc (Obj.cells #[Value.bool false, Value.slice none 0 0, Value.bool false, Value.slice none 0 0] 42)).heap.size := by simp only [World.size_alloc]; omega
  have HB := hide (bl_alloc (bl_refl w) (Obj.cells #[Value.bool false, Value.slice none 0 0, Value.bool false, Value.slice none 0 0] 42))
  go_enter Tryz.func22, Tryz.ntmps22
  go_wp2_with fail
  generalize (w.alloc (Obj.cells #[Value.bool false, Value.slice none 0 0, Value.bool false, Value.slice none 0 0] 42)) = w1 at *
  have z0 := zr
  rw [HX.out]
  refine (readS0 D _ hD4).mono ?_
  rw [HO'.out]
  unfold RawAns
  rw [HP'.out, HQ'.out, HF'.out]
  rintro e w2 ⟨a1, c1, a2, c2, rfl, ho1, ho2, hap, hb⟩
  have yw2 := hb.size
  replace kr0 := (hb.cell (p := ⟨w.heap.size, 0, none⟩) (by dsimp only; omega)).trans kr0
  replace fr0 := (hb.frozen (p := ⟨w.heap.size, 0, none⟩) (by dsimp only; omega)).trans fr0
  replace kr1 := (hb.cell (p := ⟨w.heap.size, 1, none⟩) (by dsimp only; omega)).trans kr1
  replace fr1 := (hb.frozen (p := ⟨w.heap.size, 1, none⟩) (by dsimp only; omega)).trans fr1
  replace kr2 := (hb.cell (p := ⟨w.heap.size, 2, none⟩) (by dsimp only; omega)).trans kr2
  replace fr2 := (hb.frozen (p := ⟨w.heap.size, 2, none⟩) (by dsimp only; omega)).trans fr2
  replace kr3 := (hb.cell (p := ⟨w.heap.size, 3, none⟩) (by dsimp only; omega)).trans kr3
  replace fr3 := (hb.frozen (p := ⟨w.heap.size, 3, none⟩) (by dsimp only; omega)).trans fr3
  replace zr := Nat.lt_of_lt_of_le zr hb.size
  replace HB := hide (bl_trans HB.out hb)
  clear hb
  have O1 := hide ho1
  have O2 := hide ho2
  have HAP := hide hap
  clear ho1 ho2 hap
  have yw3 : w2.heap.size + 1 ≤ (w2.alloc (Obj.cells #[Value.bool (sgn P), Value.slice a1 (lms P).length c1, Value.bool (sgn Q), Value.slice a2 (lms Q).length c2] 42)).heap.size := by simp only [World.size_alloc]; omega
  have kd0 : (w2.alloc (Obj.cells #[Value.bool (sgn P), Value.slice a1 (lms P).length c1, Value.bool (sgn Q), Value.slice a2 (lms Q).length c2] 42)).cell? ⟨w2.heap.size, 0, none⟩ = some (Value.bool (sgn P)) := by go_simp
  have kd1 : (w2.alloc (Obj.cells #[Value.bool (sgn P), Value.slice a1 (lms P).length c1, Value.bool (sgn Q), Value.slice a2 (lms Q).length c2] 42)).cell? ⟨w2.heap.size, 1, none⟩ = some (Value.slice a1 (lms P).length c1) := by go_simp
  have kd2 : (w2.alloc (Obj.cells #[Value.bool (sgn P), Value.slice a1 (lms P).length c1, Value.bool (sgn Q), Value.slice a2 (lms Q).length c2] 42)).cell? ⟨w2.heap.size, 2, none⟩ = some (Value.bool (sgn Q)) := by go_simp
  have kd3 : (w2.alloc (Obj.cells #[Value.bool (sgn P), Value.slice a1 (lms P).length c1, Value.bool (sgn Q), Value.slice a2 (lms Q).length c2] 42)).cell? ⟨w2.heap.size, 3, none⟩ = some (Value.slice a2 (lms Q).length c2) := by go_simp
  have hbn := (bl_alloc (bl_refl w2) (Obj.cells #[Value.bool (sgn P), Value.slice a1 (lms P).length c1, Value.bool (sgn Q), Value.slice a2 (lms Q).length c2] 42))
  replace kr0 := (hbn.cell (p := ⟨w.heap.size, 0, none⟩) (by dsimp only; omega)).trans kr0
  replace fr0 := (hbn.frozen (p := ⟨w.heap.size, 0, none⟩) (by dsimp only; omega)).trans fr0
  replace kr1 := (hbn.cell (p := ⟨w.heap.size, 1, none⟩) (by dsimp only; omega)).trans kr1
  replace fr1 := (hbn.frozen (p := ⟨w.heap.size, 1, none⟩) (by dsimp only; omega)).trans fr1
  replace kr2 := (hbn.cell (p := ⟨w.heap.size, 2, none⟩) (by dsimp only; omega)).trans kr2
  replace fr2 := (hbn.frozen (p := ⟨w.heap.size, 2, none⟩) (by dsimp only; omega)).trans fr2
  replace kr3 := (hbn.cell (p := ⟨w.heap.size, 3, none⟩) (by dsimp only; omega)).trans kr3
  replace fr3 := (hbn.frozen (p := ⟨w.heap.size, 3, none⟩) (by dsimp only; omega)).trans fr3
  replace O1 := hide (O1.out.below hbn)
  replace O2 := hide (O2.out.below hbn)
  replace zr := Nat.lt_of_lt_of_le zr hbn.size
  replace HB := hide (bl_trans HB.out hbn)
  clear hbn
  go_wp2_with fail
  generalize (w2.alloc (Obj.cells #[Value.bool (sgn P), Value.slice a1 (lms P).length c1, Value.bool (sgn Q), Value.slice a2 (lms Q).length c2] 42)) = w3 at *
  refine (negRS P Q a1 c1 a2 c2 _ lP O1.out.seg O2.out.seg).mono ?_
  rintro e w4 ⟨u, v, rfl, hu, hb⟩
  have yw4 := hb.size
  have HAU := hide (Apart.symm (apart_own O2.out hu))
  replace kr0 := (hb.cell (p := ⟨w.heap.size, 0, none⟩) (by dsimp only; omega)).trans kr0
  replace fr0 := (hb.frozen (p := ⟨w.heap.size, 0, none⟩) (by dsimp only; omega)).trans fr0
  replace kr1 := (hb.cell (p := ⟨w.heap.size, 1, none⟩) (by dsimp only; omega)).trans kr1
  replace fr1 := (hb.frozen (p := ⟨w.heap.size, 1, none⟩) (by dsimp only; omega)).trans fr1
  replace kr2 := (hb.cell (p := ⟨w.heap.size, 2, none⟩) (by dsimp only; omega)).trans kr2
  replace fr2 := (hb.frozen (p := ⟨w.heap.size, 2, none⟩) (by dsimp only; omega)).trans fr2
  replace kr3 := (hb.cell (p := ⟨w.heap.size, 3, none⟩) (by dsimp only; omega)).trans kr3
  replace fr3 := (hb.frozen (p := ⟨w.heap.size, 3, none⟩) (by dsimp only; omega)).trans fr3
  replace kd0 := (hb.cell (p := ⟨w2.heap.size, 0, none⟩) (by dsimp only; omega)).trans kd0
  replace kd1 := (hb.cell (p := ⟨w2.heap.size, 1, none⟩) (by dsimp only; omega)).trans kd1
  replace kd2 := (hb.cell (p := ⟨w2.heap.size, 2, none⟩) (by dsimp only; omega)).trans kd2
  replace kd3 := (hb.cell (p := ⟨w2.heap.size, 3, none⟩) (by dsimp only; omega)).trans kd3
  replace O1 := hide (O1.out.below hb)
  replace O2 := hide (O2.out.below hb)
  replace zr := Nat.lt_of_lt_of_le zr hb.size
  replace HB := hide (bl_trans HB.out hb)
  clear hb
  have OU := hide hu
  clear hu
  go_wp2_with fail
  refine (fitS_t (-P) Q u v a2 c2 _ OU.out.seg O2.out.seg HFF.out).mono ?_
  rintro e w5 ⟨rfl, hb⟩
  have yw5 := hb.size
  replace kr0 := (hb.cell (p := ⟨w.heap.size, 0, none⟩) (by dsimp only; omega)).trans kr0
  replace fr0 := (hb.frozen (p := ⟨w.heap.size, 0, none⟩) (by dsimp only; omega)).trans fr0
  replace kr1 := (hb.cell (p := ⟨w.heap.size, 1, none⟩) (by dsimp only; omega)).trans kr1
  replace fr1 := (hb.frozen (p := ⟨w.heap.size, 1, none⟩) (by dsimp only; omega)).trans fr1
  replace kr2 := (hb.cell (p := ⟨w.heap.size, 2, none⟩) (by dsimp only; omega)).trans kr2
  replace fr2 := (hb.frozen (p := ⟨w.heap.size, 2, none⟩) (by dsimp only; omega)).trans fr2
  replace kr3 := (hb.cell (p := ⟨w.heap.size, 3, none⟩) (by dsimp only; omega)).trans kr3
  replace fr3 := (hb.frozen (p := ⟨w.heap.size, 3, none⟩) (by dsimp only; omega)).trans fr3
  replace kd0 := (hb.cell (p := ⟨w2.heap.size, 0, none⟩) (by dsimp only; omega)).trans kd0
  replace kd1 := (hb.cell (p := ⟨w2.heap.size, 1, none⟩) (by dsimp only; omega)).trans kd1
  replace kd2 := (hb.cell (p := ⟨w2.heap.size, 2, none⟩) (by dsimp only; omega)).trans kd2
  replace kd3 := (hb.cell (p := ⟨w2.heap.size, 3, none⟩) (by dsimp only; omega)).trans kd3
  replace O1 := hide (O1.out.below hb)
  replace O2 := hide (O2.out.below hb)
  replace OU := hide (OU.out.below hb)
  replace zr := Nat.lt_of_lt_of_le zr hb.size
  replace HB := hide (bl_trans HB.out hb)
  clear hb
  go_wp2
  refine bodyPost_ret (v := (.tuple #[Value.agg #[Value.bool (sgn (-P)), Value.slice u (lms (-P)).length v, Value.bool (sgn Q), Value.slice a2 (lms Q).length c2], .bool true])) (by simp [results, Tryz.results22, go_sem, kr0, kr1, kr2, kr3]) rfl ?_
  have h1 := own_four' (lo := w.heap.size) OU.out (show w.heap.size < _ by omega) (by omega) (Value.bool (sgn (-P))) (Value.slice u (lms (-P)).length v) (Value.bool (sgn Q)) (Value.slice a2 (lms Q).length c2)
  have h2 := own_four' (lo := w.heap.size) O2.out (show w.heap.size < _ by omega) (by omega) (Value.bool (sgn (-P))) (Value.slice u (lms (-P)).length v) (Value.bool (sgn Q)) (Value.slice a2 (lms Q).length c2)
  exact ⟨_, _, _, _, rfl, h1, h2, HAU.out, set_four (Nat.le_refl _) HB.out _ _ _ _⟩

set_option maxHeartbeats 4000000 in
set_option maxRecDepth 20000 in
theorem rzPN (s D : ByteArray) (o : Option (Nat × Nat)) (P Q : Int) (w : World) (hs : s.size ≤ 400) (ho : rrS D.data.toList = o) (hP : rwN o = P) (hQ : rwD o = Q) (hr : s.toList.isEmpty = false) (h1 : 0 < s.size) (h45 : ((s[0].toNat : Int) == 45) = false) (hx : s = D) (hF : o.isSome = false) :
    Calls Tryz.prog 22 #[.string s] w fun e w' => e = .returned (.tuple #[.agg #[.bool false, .slice none 0 0, .bool false, .slice none 0 0], .bool false]) ∧ Below w.heap.size w w' := by
  have HO' := hide ho
  have HP' := hide hP
  have HQ' := hide hQ
  have HF' := hide hF
  clear ho hP hQ hF
  have hs' : ¬ (400 : Int) < (s.size : Int) := by omega
  subst hx
  have kr0 : (w.alloc (Obj.cells #[Value.bool false, Value.slice none 0 0, Value.bool false, Value.slice none 0 0] 42)).cell? ⟨w.heap.size, 0, none⟩ = some (Value.bool false) := by go_simp
  have fr0 : (w.alloc (Obj.cells #[Value.bool false, Value.slice none 0 0, Value.bool false, Value.slice none 0 0] 42)).frozen? ⟨w.heap.size, 0, none⟩ = false := by go_simp
  have kr1 : (w.alloc (Obj.cells #[Value.bool false, Value.slice none 0 0, Value.bool false, Value.slice none 0 0] 42)).cell? ⟨w.heap.size, 1, none⟩ = some (Value.slice none 0 0) := by go_simp
  have fr1 : (w.alloc (Obj.cells #[Value.bool false, Value.slice none 0 0, Value.bool false, Value.slice none 0 0] 42)).frozen? ⟨w.heap.size, 1, none⟩ = false := by go_simp
  have kr2 : (w.alloc (Obj.cells #[Value.bool false, Value.slice none 0 0, Value.bool false, Value.slice none 0 0] 42)).cell? ⟨w.heap.size, 2, none⟩ = some (Value.bool false) := by go_simp
  have fr2 : (w.alloc (Obj.cells #[Value.bool false, Value.slice none 0 0, Value.bool false, Value.slice none 0 0] 42)).frozen? ⟨w.heap.size, 2, none⟩ = false := by go_simp
  have kr3 : (w.alloc (Obj.cells #[Value.bool false, Value.slice none 0 0, Value.bool false, Value.slice none 0 0] 42)).cell? ⟨w.heap.size, 3, none⟩ = some (Value.slice none 0 0) := by go_simp
  have fr3 : (w.alloc (Obj.cells #[Value.bool false, Value.slice none 0 0, Value.bool false, Value.slice none 0 0] 42)).frozen? ⟨w.heap.size, 3, none⟩ = false := by go_simp
  have zr : w.heap.size < (w.alloc (Obj.cells #[Value.bool false, Value.slice none 0 0, Value.bool false, Value.slice none 0 0] 42)).heap.size := by simp only [World.size_alloc]; omega
  have HB := hide (bl_alloc (bl_refl w) (Obj.cells #[Value.bool false, Value.slice none 0 0, Value.bool false, Value.slice none 0 0] 42))
  go_enter Tryz.func22, Tryz.ntmps22
  go_wp2_with fail
  generalize (w.alloc (Obj.cells #[Value.bool false, Value.slice none 0 0, Value.bool false, Value.slice none 0 0] 42)) = w1 at *
  have z0 := zr
  refine (readS0 s _ hs).mono ?_
  rw [HO'.out]
  unfold RawAns
  rw [HP'.out, HQ'.out, HF'.out]
  rintro e w2 ⟨a1, c1, a2, c2, rfl, ho1, ho2, hap, hb⟩
  have yw2 := hb.size
  replace kr0 := (hb.cell (p := ⟨w.heap.size, 0, none⟩) (by dsimp only; omega)).trans kr0
  replace fr0 := (hb.frozen (p := ⟨w.heap.size, 0, none⟩) (by dsimp only; omega)).trans fr0
  replace kr1 := (hb.cell (p := ⟨w.heap.size, 1, none⟩) (by dsimp only; omega)).trans kr1
  replace fr1 := (hb.frozen (p := ⟨w.heap.size, 1, none⟩) (by dsimp only; omega)).trans fr1
  replace kr2 := (hb.cell (p := ⟨w.heap.size, 2, none⟩) (by dsimp only; omega)).trans kr2
  replace fr2 := (hb.frozen (p := ⟨w.heap.size, 2, none⟩) (by dsimp only; omega)).trans fr2
  replace kr3 := (hb.cell (p := ⟨w.heap.size, 3, none⟩) (by dsimp only; omega)).trans kr3
  replace fr3 := (hb.frozen (p := ⟨w.heap.size, 3, none⟩) (by dsimp only; omega)).trans fr3
  replace zr := Nat.lt_of_lt_of_le zr hb.size
  replace HB := hide (bl_trans HB.out hb)
  clear hb
  have O1 := hide ho1
  have O2 := hide ho2
  have HAP := hide hap
  clear ho1 ho2 hap
  have yw3 : w2.heap.size + 1 ≤ (w2.alloc (Obj.cells #[Value.bool (sgn P), Value.slice a1 (lms P).length c1, Value.bool (sgn Q), Value.slice a2 (lms Q).length c2] 42)).heap.size := by simp only [World.size_alloc]; omega
  have hbn := (bl_alloc (bl_refl w2) (Obj.cells #[Value.bool (sgn P), Value.slice a1 (lms P).length c1, Value.bool (sgn Q), Value.slice a2 (lms Q).length c2] 42))
  replace kr0 := (hbn.cell (p := ⟨w.heap.size, 0, none⟩) (by dsimp only; omega)).trans kr0
  replace fr0 := (hbn.frozen (p := ⟨w.heap.size, 0, none⟩) (by dsimp only; omega)).trans fr0
  replace kr1 := (hbn.cell (p := ⟨w.heap.size, 1, none⟩) (by dsimp only; omega)).trans kr1
  replace fr1 := (hbn.frozen (p := ⟨w.heap.size, 1, none⟩) (by dsimp only; omega)).trans fr1
  replace kr2 := (hbn.cell (p := ⟨w.heap.size, 2, none⟩) (by dsimp only; omega)).trans kr2
  replace fr2 := (hbn.frozen (p := ⟨w.heap.size, 2, none⟩) (by dsimp only; omega)).trans fr2
  replace kr3 := (hbn.cell (p := ⟨w.heap.size, 3, none⟩) (by dsimp only; omega)).trans kr3
  replace fr3 := (hbn.frozen (p := ⟨w.heap.size, 3, none⟩) (by dsimp only; omega)).trans fr3
  replace O1 := hide (O1.out.below hbn)
  replace O2 := hide (O2.out.below hbn)
  replace zr := Nat.lt_of_lt_of_le zr hbn.size
  replace HB := hide (bl_trans HB.out hbn)
  clear hbn
  go_wp2
  refine bodyPost_ret (v := (.tuple #[.agg #[.bool false, .slice none 0 0, .bool false, .slice none 0 0], .bool false])) (by simp [results, Tryz.results22, go_sem, kr0, kr1, kr2, kr3]) rfl ?_
  exact ⟨rfl, set_four (Nat.le_refl _) HB.out _ _ _ _⟩

set_option maxHeartbeats 4000000 in
set_option maxRecDepth 20000 in
theorem rzPU (s D : ByteArray) (o : Option (Nat × Nat)) (P Q : Int) (w : World) (hs : s.size ≤ 400) (ho : rrS D.data.toList = o) (hP : rwN o = P) (hQ : rwD o = Q) (hr : s.toList.isEmpty = false) (h1 : 0 < s.size) (h45 : ((s[0].toNat : Int) == 45) = false) (hx : s = D) (hF : o.isSome = true) (hf : ftT P Q = false) :
    Calls Tryz.prog 22 #[.string s] w fun e w' => e = .returned (.tuple #[.agg #[.bool false, .slice none 0 0, .bool false, .slice none 0 0], .bool false]) ∧ Below w.heap.size w w' := by
  have HO' := hide ho
  have HP' := hide hP
  have HQ' := hide hQ
  have HF' := hide hF
  have HFF := hide hf
  clear ho hP hQ hF hf
  have hs' : ¬ (400 : Int) < (s.size : Int) := by omega
  subst hx
  have kr0 : (w.alloc (Obj.cells #[Value.bool false, Value.slice none 0 0, Value.bool false, Value.slice none 0 0] 42)).cell? ⟨w.heap.size, 0, none⟩ = some (Value.bool false) := by go_simp
  have fr0 : (w.alloc (Obj.cells #[Value.bool false, Value.slice none 0 0, Value.bool false, Value.slice none 0 0] 42)).frozen? ⟨w.heap.size, 0, none⟩ = false := by go_simp
  have kr1 : (w.alloc (Obj.cells #[Value.bool false, Value.slice none 0 0, Value.bool false, Value.slice none 0 0] 42)).cell? ⟨w.heap.size, 1, none⟩ = some (Value.slice none 0 0) := by go_simp
  have fr1 : (w.alloc (Obj.cells #[Value.bool false, Value.slice none 0 0, Value.bool false, Value.slice none 0 0] 42)).frozen? ⟨w.heap.size, 1, none⟩ = false := by go_simp
  have kr2 : (w.alloc (Obj.cells #[Value.bool false, Value.slice none 0 0, Value.bool false, Value.slice none 0 0] 42)).cell? ⟨w.heap.size, 2, none⟩ = some (Value.bool false) := by go_simp
  have fr2 : (w.alloc (Obj.cells #[Value.bool false, Value.slice none 0 0, Value.bool false, Value.slice none 0 0] 42)).frozen? ⟨w.heap.size, 2, none⟩ = false := by go_simp
  have kr3 : (w.alloc (Obj.cells #[Value.bool false, Value.slice none 0 0, Value.bool false, Value.slice none 0 0] 42)).cell? ⟨w.heap.size, 3, none⟩ = some (Value.slice none 0 0) := by go_simp
  have fr3 : (w.alloc (Obj.cells #[Value.bool false, Value.slice none 0 0, Value.bool false, Value.slice none 0 0] 42)).frozen? ⟨w.heap.size, 3, none⟩ = false := by go_simp
  have zr : w.heap.size < (w.alloc (Obj.cells #[Value.bool false, Value.slice none 0 0, Value.bool false, Value.slice none 0 0] 42)).heap.size := by simp only [World.size_alloc]; omega
  have HB := hide (bl_alloc (bl_refl w) (Obj.cells #[Value.bool false, Value.slice none 0 0, Value.bool false, Value.slice none 0 0] 42))
  go_enter Tryz.func22, Tryz.ntmps22
  go_wp2_with fail
  generalize (w.alloc (Obj.cells #[Value.bool false, Value.slice none 0 0, Value.bool false, Value.slice none 0 0] 42)) = w1 at *
  have z0 := zr
  refine (readS0 s _ hs).mono ?_
  rw [HO'.out]
  unfold RawAns
  rw [HP'.out, HQ'.out, HF'.out]
  rintro e w2 ⟨a1, c1, a2, c2, rfl, ho1, ho2, hap, hb⟩
  have yw2 := hb.size
  replace kr0 := (hb.cell (p := ⟨w.heap.size, 0, none⟩) (by dsimp only; omega)).trans kr0
  replace fr0 := (hb.frozen (p := ⟨w.heap.size, 0, none⟩) (by dsimp only; omega)).trans fr0
  replace kr1 := (hb.cell (p := ⟨w.heap.size, 1, none⟩) (by dsimp only; omega)).trans kr1
  replace fr1 := (hb.frozen (p := ⟨w.heap.size, 1, none⟩) (by dsimp only; omega)).trans fr1
  replace kr2 := (hb.cell (p := ⟨w.heap.size, 2, none⟩) (by dsimp only; omega)).trans kr2
  replace fr2 := (hb.frozen (p := ⟨w.heap.size, 2, none⟩) (by dsimp only; omega)).trans fr2
  replace kr3 := (hb.cell (p := ⟨w.heap.size, 3, none⟩) (by dsimp only; omega)).trans kr3
  replace fr3 := (hb.frozen (p := ⟨w.heap.size, 3, none⟩) (by dsimp only; omega)).trans fr3
  replace zr := Nat.lt_of_lt_of_le zr hb.size
  replace HB := hide (bl_trans HB.out hb)
  clear hb
  have O1 := hide ho1
  have O2 := hide ho2
  have HAP := hide hap
  clear ho1 ho2 hap
  have yw3 : w2.heap.size + 1 ≤ (w2.alloc (Obj.cells #[Value.bool (sgn P), Value.slice a1 (lms P).length c1, Value.bool (sgn Q), Value.slice a2 (lms Q).length c2] 42)).heap.size := by simp only [World.size_alloc]; omega
  have kd0 : (w2.alloc (Obj.cells #[Value.bool (sgn P), Value.slice a1 (lms P).length c1, Value.bool (sgn Q), Value.slice a2 (lms Q).length c2] 42)).cell? ⟨w2.heap.size, 0, none⟩ = some (Value.bool (sgn P)) := by go_simp
  have kd1 : (w2.alloc (Obj.cells #[Value.bool (sgn P), Value.slice a1 (lms P).length c1, Value.bool (sgn Q), Value.slice a2 (lms Q).length c2] 42)).cell? ⟨w2.heap.size, 1, none⟩ = some (Value.slice a1 (lms P).length c1) := by go_simp
  have kd2 : (w2.alloc (Obj.cells #[Value.bool (sgn P), Value.slice a1 (lms P).length c1, Value.bool (sgn Q), Value.slice a2 (lms Q).length c2] 42)).cell? ⟨w2.heap.size, 2, none⟩ = some (Value.bool (sgn Q)) := by go_simp
  have kd3 : (w2.alloc (Obj.cells #[Value.bool (sgn P), Value.slice a1 (lms P).length c1, Value.bool (sgn Q), Value.slice a2 (lms Q).length c2] 42)).cell? ⟨w2.heap.size, 3, none⟩ = some (Value.slice a2 (lms Q).length c2) := by go_simp
  have hbn := (bl_alloc (bl_refl w2) (Obj.cells #[Value.bool (sgn P), Value.slice a1 (lms P).length c1, Value.bool (sgn Q), Value.slice a2 (lms Q).length c2] 42))
  replace kr0 := (hbn.cell (p := ⟨w.heap.size, 0, none⟩) (by dsimp only; omega)).trans kr0
  replace fr0 := (hbn.frozen (p := ⟨w.heap.size, 0, none⟩) (by dsimp only; omega)).trans fr0
  replace kr1 := (hbn.cell (p := ⟨w.heap.size, 1, none⟩) (by dsimp only; omega)).trans kr1
  replace fr1 := (hbn.frozen (p := ⟨w.heap.size, 1, none⟩) (by dsimp only; omega)).trans fr1
  replace kr2 := (hbn.cell (p := ⟨w.heap.size, 2, none⟩) (by dsimp only; omega)).trans kr2
  replace fr2 := (hbn.frozen (p := ⟨w.heap.size, 2, none⟩) (by dsimp only; omega)).trans fr2
  replace kr3 := (hbn.cell (p := ⟨w.heap.size, 3, none⟩) (by dsimp only; omega)).trans kr3
  replace fr3 := (hbn.frozen (p := ⟨w.heap.size, 3, none⟩) (by dsimp only; omega)).trans fr3
  replace O1 := hide (O1.out.below hbn)
  replace O2 := hide (O2.out.below hbn)
  replace zr := Nat.lt_of_lt_of_le zr hbn.size
  replace HB := hide (bl_trans HB.out hbn)
  clear hbn
  go_wp2_with fail
  generalize (w2.alloc (Obj.cells #[Value.bool (sgn P), Value.slice a1 (lms P).length c1, Value.bool (sgn Q), Value.slice a2 (lms Q).length c2] 42)) = w3 at *
  refine (fitS_f P Q a1 c1 a2 c2 _ O1.out.seg O2.out.seg HFF.out).mono ?_
  rintro e w4 ⟨rfl, hb⟩
  have yw4 := hb.size
  replace kr0 := (hb.cell (p := ⟨w.heap.size, 0, none⟩) (by dsimp only; omega)).trans kr0
  replace fr0 := (hb.frozen (p := ⟨w.heap.size, 0, none⟩) (by dsimp only; omega)).trans fr0
  replace kr1 := (hb.cell (p := ⟨w.heap.size, 1, none⟩) (by dsimp only; omega)).trans kr1
  replace fr1 := (hb.frozen (p := ⟨w.heap.size, 1, none⟩) (by dsimp only; omega)).trans fr1
  replace kr2 := (hb.cell (p := ⟨w.heap.size, 2, none⟩) (by dsimp only; omega)).trans kr2
  replace fr2 := (hb.frozen (p := ⟨w.heap.size, 2, none⟩) (by dsimp only; omega)).trans fr2
  replace kr3 := (hb.cell (p := ⟨w.heap.size, 3, none⟩) (by dsimp only; omega)).trans kr3
  replace fr3 := (hb.frozen (p := ⟨w.heap.size, 3, none⟩) (by dsimp only; omega)).trans fr3
  replace kd0 := (hb.cell (p := ⟨w2.heap.size, 0, none⟩) (by dsimp only; omega)).trans kd0
  replace kd1 := (hb.cell (p := ⟨w2.heap.size, 1, none⟩) (by dsimp only; omega)).trans kd1
  replace kd2 := (hb.cell (p := ⟨w2.heap.size, 2, none⟩) (by dsimp only; omega)).trans kd2
  replace kd3 := (hb.cell (p := ⟨w2.heap.size, 3, none⟩) (by dsimp only; omega)).trans kd3
  replace O1 := hide (O1.out.below hb)
  replace O2 := hide (O2.out.below hb)
  replace zr := Nat.lt_of_lt_of_le zr hb.size
  replace HB := hide (bl_trans HB.out hb)
  clear hb
  go_wp2
  refine bodyPost_ret (v := (.tuple #[.agg #[.bool false, .slice none 0 0, .bool false, .slice none 0 0], .bool false])) (by simp [results, Tryz.results22, go_sem, kr0, kr1, kr2, kr3]) rfl ?_
  exact ⟨rfl, set_four (Nat.le_refl _) HB.out _ _ _ _⟩

set_option maxHeartbeats 4000000 in
set_option maxRecDepth 20000 in
theorem rzPF (s D : ByteArray) (o : Option (Nat × Nat)) (P Q : Int) (w : World) (hs : s.size ≤ 400) (ho : rrS D.data.toList = o) (hP : rwN o = P) (hQ : rwD o = Q) (hr : s.toList.isEmpty = false) (h1 : 0 < s.size) (h45 : ((s[0].toNat : Int) == 45) = false) (hx : s = D) (hF : o.isSome = true) (hf : ftT P Q = true) :
    Calls Tryz.prog 22 #[.string s] w fun e w' => ∃ b1 e1 b2 e2, e = .returned (.tuple #[.agg #[.bool (sgn P), .slice b1 (lms P).length e1, .bool (sgn Q), .slice b2 (lms Q).length e2], .bool true]) ∧ Own w' w.heap.size b1 (lms P).length e1 (lms P) ∧ Own w' w.heap.size b2 (lms Q).length e2 (lms Q) ∧ Apart b1 b2 ∧ Below w.heap.size w w' := by
  have HO' := hide ho
  have HP' := hide hP
  have HQ' := hide hQ
  have HF' := hide hF
  have HFF := hide hf
  clear ho hP hQ hF hf
  have hs' : ¬ (400 : Int) < (s.size : Int) := by omega
  subst hx
  have kr0 : (w.alloc (Obj.cells #[Value.bool false, Value.slice none 0 0, Value.bool false, Value.slice none 0 0] 42)).cell? ⟨w.heap.size, 0, none⟩ = some (Value.bool false) := by go_simp
  have fr0 : (w.alloc (Obj.cells #[Value.bool false, Value.slice none 0 0, Value.bool false, Value.slice none 0 0] 42)).frozen? ⟨w.heap.size, 0, none⟩ = false := by go_simp
  have kr1 : (w.alloc (Obj.cells #[Value.bool false, Value.slice none 0 0, Value.bool false, Value.slice none 0 0] 42)).cell? ⟨w.heap.size, 1, none⟩ = some (Value.slice none 0 0) := by go_simp
  have fr1 : (w.alloc (Obj.cells #[Value.bool false, Value.slice none 0 0, Value.bool false, Value.slice none 0 0] 42)).frozen? ⟨w.heap.size, 1, none⟩ = false := by go_simp
  have kr2 : (w.alloc (Obj.cells #[Value.bool false, Value.slice none 0 0, Value.bool false, Value.slice none 0 0] 42)).cell? ⟨w.heap.size, 2, none⟩ = some (Value.bool false) := by go_simp
  have fr2 : (w.alloc (Obj.cells #[Value.bool false, Value.slice none 0 0, Value.bool false, Value.slice none 0 0] 42)).frozen? ⟨w.heap.size, 2, none⟩ = false := by go_simp
  have kr3 : (w.alloc (Obj.cells #[Value.bool false, Value.slice none 0 0, Value.bool false, Value.slice none 0 0] 42)).cell? ⟨w.heap.size, 3, none⟩ = some (Value.slice none 0 0) := by go_simp
  have fr3 : (w.alloc (Obj.cells #[Value.bool false, Value.slice none 0 0, Value.bool false, Value.slice none 0 0] 42)).frozen? ⟨w.heap.size, 3, none⟩ = false := by go_simp
  have zr : w.heap.size < (w.alloc (Obj.cells #[Value.bool false, Value.slice none 0 0, Value.bool false, Value.slice none 0 0] 42)).heap.size := by simp only [World.size_alloc]; omega
  have HB := hide (bl_alloc (bl_refl w) (Obj.cells #[Value.bool false, Value.slice none 0 0, Value.bool false, Value.slice none 0 0] 42))
  go_enter Tryz.func22, Tryz.ntmps22
  go_wp2_with fail
  generalize (w.alloc (Obj.cells #[Value.bool false, Value.slice none 0 0, Value.bool false, Value.slice none 0 0] 42)) = w1 at *
  have z0 := zr
  refine (readS0 s _ hs).mono ?_
  rw [HO'.out]
  unfold RawAns
  rw [HP'.out, HQ'.out, HF'.out]
  rintro e w2 ⟨a1, c1, a2, c2, rfl, ho1, ho2, hap, hb⟩
  have yw2 := hb.size
  replace kr0 := (hb.cell (p := ⟨w.heap.size, 0, none⟩) (by dsimp only; omega)).trans kr0
  replace fr0 := (hb.frozen (p := ⟨w.heap.size, 0, none⟩) (by dsimp only; omega)).trans fr0
  replace kr1 := (hb.cell (p := ⟨w.heap.size, 1, none⟩) (by dsimp only; omega)).trans kr1
  replace fr1 := (hb.frozen (p := ⟨w.heap.size, 1, none⟩) (by dsimp only; omega)).trans fr1
  replace kr2 := (hb.cell (p := ⟨w.heap.size, 2, none⟩) (by dsimp only; omega)).trans kr2
  replace fr2 := (hb.frozen (p := ⟨w.heap.size, 2, none⟩) (by dsimp only; omega)).trans fr2
  replace kr3 := (hb.cell (p := ⟨w.heap.size, 3, none⟩) (by dsimp only; omega)).trans kr3
  replace fr3 := (hb.frozen (p := ⟨w.heap.size, 3, none⟩) (by dsimp only; omega)).trans fr3
  replace zr := Nat.lt_of_lt_of_le zr hb.size
  replace HB := hide (bl_trans HB.out hb)
  clear hb
  have O1 := hide ho1
  have O2 := hide ho2
  have HAP := hide hap
  clear ho1 ho2 hap
  have yw3 : w2.heap.size + 1 ≤ (w2.alloc (Obj.cells #[Value.bool (sgn P), Value.slice a1 (lms P).length c1, Value.bool (sgn Q), Value.slice a2 (lms Q).length c2] 42)).heap.size := by simp only [World.size_alloc]; omega
  have kd0 : (w2.alloc (Obj.cells #[Value.bool (sgn P), Value.slice a1 (lms P).length c1, Value.bool (sgn Q), Value.slice a2 (lms Q).length c2] 42)).cell? ⟨w2.heap.size, 0, none⟩ = some (Value.bool (sgn P)) := by go_simp
  have kd1 : (w2.alloc (Obj.cells #[Value.bool (sgn P), Value.slice a1 (lms P).length c1, Value.bool (sgn Q), Value.slice a2 (lms Q).length c2] 42)).cell? ⟨w2.heap.size, 1, none⟩ = some (Value.slice a1 (lms P).length c1) := by go_simp
  have kd2 : (w2.alloc (Obj.cells #[Value.bool (sgn P), Value.slice a1 (lms P).length c1, Value.bool (sgn Q), Value.slice a2 (lms Q).length c2] 42)).cell? ⟨w2.heap.size, 2, none⟩ = some (Value.bool (sgn Q)) := by go_simp
  have kd3 : (w2.alloc (Obj.cells #[Value.bool (sgn P), Value.slice a1 (lms P).length c1, Value.bool (sgn Q), Value.slice a2 (lms Q).length c2] 42)).cell? ⟨w2.heap.size, 3, none⟩ = some (Value.slice a2 (lms Q).length c2) := by go_simp
  have hbn := (bl_alloc (bl_refl w2) (Obj.cells #[Value.bool (sgn P), Value.slice a1 (lms P).length c1, Value.bool (sgn Q), Value.slice a2 (lms Q).length c2] 42))
  replace kr0 := (hbn.cell (p := ⟨w.heap.size, 0, none⟩) (by dsimp only; omega)).trans kr0
  replace fr0 := (hbn.frozen (p := ⟨w.heap.size, 0, none⟩) (by dsimp only; omega)).trans fr0
  replace kr1 := (hbn.cell (p := ⟨w.heap.size, 1, none⟩) (by dsimp only; omega)).trans kr1
  replace fr1 := (hbn.frozen (p := ⟨w.heap.size, 1, none⟩) (by dsimp only; omega)).trans fr1
  replace kr2 := (hbn.cell (p := ⟨w.heap.size, 2, none⟩) (by dsimp only; omega)).trans kr2
  replace fr2 := (hbn.frozen (p := ⟨w.heap.size, 2, none⟩) (by dsimp only; omega)).trans fr2
  replace kr3 := (hbn.cell (p := ⟨w.heap.size, 3, none⟩) (by dsimp only; omega)).trans kr3
  replace fr3 := (hbn.frozen (p := ⟨w.heap.size, 3, none⟩) (by dsimp only; omega)).trans fr3
  replace O1 := hide (O1.out.below hbn)
  replace O2 := hide (O2.out.below hbn)
  replace zr := Nat.lt_of_lt_of_le zr hbn.size
  replace HB := hide (bl_trans HB.out hbn)
  clear hbn
  go_wp2_with fail
  generalize (w2.alloc (Obj.cells #[Value.bool (sgn P), Value.slice a1 (lms P).length c1, Value.bool (sgn Q), Value.slice a2 (lms Q).length c2] 42)) = w3 at *
  refine (fitS_t P Q a1 c1 a2 c2 _ O1.out.seg O2.out.seg HFF.out).mono ?_
  rintro e w4 ⟨rfl, hb⟩
  have yw4 := hb.size
  replace kr0 := (hb.cell (p := ⟨w.heap.size, 0, none⟩) (by dsimp only; omega)).trans kr0
  replace fr0 := (hb.frozen (p := ⟨w.heap.size, 0, none⟩) (by dsimp only; omega)).trans fr0
  replace kr1 := (hb.cell (p := ⟨w.heap.size, 1, none⟩) (by dsimp only; omega)).trans kr1
  replace fr1 := (hb.frozen (p := ⟨w.heap.size, 1, none⟩) (by dsimp only; omega)).trans fr1
  replace kr2 := (hb.cell (p := ⟨w.heap.size, 2, none⟩) (by dsimp only; omega)).trans kr2
  replace fr2 := (hb.frozen (p := ⟨w.heap.size, 2, none⟩) (by dsimp only; omega)).trans fr2
  replace kr3 := (hb.cell (p := ⟨w.heap.size, 3, none⟩) (by dsimp only; omega)).trans kr3
  replace fr3 := (hb.frozen (p := ⟨w.heap.size, 3, none⟩) (by dsimp only; omega)).trans fr3
  replace kd0 := (hb.cell (p := ⟨w2.heap.size, 0, none⟩) (by dsimp only; omega)).trans kd0
  replace kd1 := (hb.cell (p := ⟨w2.heap.size, 1, none⟩) (by dsimp only; omega)).trans kd1
  replace kd2 := (hb.cell (p := ⟨w2.heap.size, 2, none⟩) (by dsimp only; omega)).trans kd2
  replace kd3 := (hb.cell (p := ⟨w2.heap.size, 3, none⟩) (by dsimp only; omega)).trans kd3
  replace O1 := hide (O1.out.below hb)
  replace O2 := hide (O2.out.below hb)
  replace zr := Nat.lt_of_lt_of_le zr hb.size
  replace HB := hide (bl_trans HB.out hb)
  clear hb
  go_wp2
  refine bodyPost_ret (v := (.tuple #[Value.agg #[Value.bool (sgn P), Value.slice a1 (lms P).length c1, Value.bool (sgn Q), Value.slice a2 (lms Q).length c2], .bool true])) (by simp [results, Tryz.results22, go_sem, kr0, kr1, kr2, kr3]) rfl ?_
  have h1 := own_four' (lo := w.heap.size) O1.out (show w.heap.size < _ by omega) (by omega) (Value.bool (sgn P)) (Value.slice a1 (lms P).length c1) (Value.bool (sgn Q)) (Value.slice a2 (lms Q).length c2)
  have h2 := own_four' (lo := w.heap.size) O2.out (show w.heap.size < _ by omega) (by omega) (Value.bool (sgn P)) (Value.slice a1 (lms P).length c1) (Value.bool (sgn Q)) (Value.slice a2 (lms Q).length c2)
  exact ⟨_, _, _, _, rfl, h1, h2, HAP.out, set_four (Nat.le_refl _) HB.out _ _ _ _⟩

set_option maxHeartbeats 4000000 in
set_option maxRecDepth 20000 in
theorem rzZN (s D : ByteArray) (o : Option (Nat × Nat)) (P Q : Int) (w : World) (hs : s.size ≤ 400) (ho : rrS D.data.toList = o) (hP : rwN o = P) (hQ : rwD o = Q) (hr : s.toList.isEmpty = true) (hx : s = D) (hF : o.isSome = false) :
    Calls Tryz.prog 22 #[.string s] w fun e w' => e = .returned (.tuple #[.agg #[.bool false, .slice none 0 0, .bool false, .slice none 0 0], .bool false]) ∧ Below w.heap.size w w' := by
  have HO' := hide ho
  have HP' := hide hP
  have HQ' := hide hQ
  have HF' := hide hF
  clear ho hP hQ hF
  have hs' : ¬ (400 : Int) < (s.size : Int) := by omega
  subst hx
  have kr0 : (w.alloc (Obj.cells #[Value.bool false, Value.slice none 0 0, Value.bool false, Value.slice none 0 0] 42)).cell? ⟨w.heap.size, 0, none⟩ = some (Value.bool false) := by go_simp
  have fr0 : (w.alloc (Obj.cells #[Value.bool false, Value.slice none 0 0, Value.bool false, Value.slice none 0 0] 42)).frozen? ⟨w.heap.size, 0, none⟩ = false := by go_simp
  have kr1 : (w.alloc (Obj.cells #[Value.bool false, Value.slice none 0 0, Value.bool false, Value.slice none 0 0] 42)).cell? ⟨w.heap.size, 1, none⟩ = some (Value.slice none 0 0) := by go_simp
  have fr1 : (w.alloc (Obj.cells #[Value.bool false, Value.slice none 0 0, Value.bool false, Value.slice none 0 0] 42)).frozen? ⟨w.heap.size, 1, none⟩ = false := by go_simp
  have kr2 : (w.alloc (Obj.cells #[Value.bool false, Value.slice none 0 0, Value.bool false, Value.slice none 0 0] 42)).cell? ⟨w.heap.size, 2, none⟩ = some (Value.bool false) := by go_simp
  have fr2 : (w.alloc (Obj.cells #[Value.bool false, Value.slice none 0 0, Value.bool false, Value.slice none 0 0] 42)).frozen? ⟨w.heap.size, 2, none⟩ = false := by go_simp
  have kr3 : (w.alloc (Obj.cells #[Value.bool false, Value.slice none 0 0, Value.bool false, Value.slice none 0 0] 42)).cell? ⟨w.heap.size, 3, none⟩ = some (Value.slice none 0 0) := by go_simp
  have fr3 : (w.alloc (Obj.cells #[Value.bool false, Value.slice none 0 0, Value.bool false, Value.slice none 0 0] 42)).frozen? ⟨w.heap.size, 3, none⟩ = false := by go_simp
  have zr : w.heap.size < (w.alloc (Obj.cells #[Value.bool false, Value.slice none 0 0, Value.bool false, Value.slice none 0 0] 42)).heap.size := by simp only [World.size_alloc]; omega
  have HB := hide (bl_alloc (bl_refl w) (Obj.cells #[Value.bool false, Value.slice none 0 0, Value.bool false, Value.slice none 0 0] 42))
  go_enter Tryz.func22, Tryz.ntmps22
  go_wp2_with fail
  generalize (w.alloc (Obj.cells #[Value.bool false, Value.slice none 0 0, Value.bool false, Value.slice none 0 0] 42)) = w1 at *
  have z0 := zr
  refine (readS0 s _ hs).mono ?_
  rw [HO'.out]
  unfold RawAns
  rw [HP'.out, HQ'.out, HF'.out]
  rintro e w2 ⟨a1, c1, a2, c2, rfl, ho1, ho2, hap, hb⟩
  have yw2 := hb.size
  replace kr0 := (hb.cell (p := ⟨w.heap.size, 0, none⟩) (by dsimp only; omega)).trans kr0
  replace fr0 := (hb.frozen (p := ⟨w.heap.size, 0, none⟩) (by dsimp only; omega)).trans fr0
  replace kr1 := (hb.cell (p := ⟨w.heap.size, 1, none⟩) (by dsimp only; omega)).trans kr1
  replace fr1 := (hb.frozen (p := ⟨w.heap.size, 1, none⟩) (by dsimp only; omega)).trans fr1
  replace kr2 := (hb.cell (p := ⟨w.heap.size, 2, none⟩) (by dsimp only; omega)).trans kr2
  replace fr2 := (hb.frozen (p := ⟨w.heap.size, 2, none⟩) (by dsimp only; omega)).trans fr2
  replace kr3 := (hb.cell (p := ⟨w.heap.size, 3, none⟩) (by dsimp only; omega)).trans kr3
  replace fr3 := (hb.frozen (p := ⟨w.heap.size, 3, none⟩) (by dsimp only; omega)).trans fr3
  replace zr := Nat.lt_of_lt_of_le zr hb.size
  replace HB := hide (bl_trans HB.out hb)
  clear hb
  have O1 := hide ho1
  have O2 := hide ho2
  have HAP := hide hap
  clear ho1 ho2 hap
  have yw3 : w2.heap.size + 1 ≤ (w2.alloc (Obj.cells #[Value.bool (sgn P), Value.slice a1 (lms P).length c1, Value.bool (sgn Q), Value.slice a2 (lms Q).length c2] 42)).heap.size := by simp only [World.size_alloc]; omega
  have hbn := (bl_alloc (bl_refl w2) (Obj.cells #[Value.bool (sgn P), Value.slice a1 (lms P).length c1, Value.bool (sgn Q), Value.slice a2 (lms Q).length c2] 42))
  replace kr0 := (hbn.cell (p := ⟨w.heap.size, 0, none⟩) (by dsimp only; omega)).trans kr0
  replace fr0 := (hbn.frozen (p := ⟨w.heap.size, 0, none⟩) (by dsimp only; omega)).trans fr0
  replace kr1 := (hbn.cell (p := ⟨w.heap.size, 1, none⟩) (by dsimp only; omega)).trans kr1
  replace fr1 := (hbn.frozen (p := ⟨w.heap.size, 1, none⟩) (by dsimp only; omega)).trans fr1
  replace kr2 := (hbn.cell (p := ⟨w.heap.size, 2, none⟩) (by dsimp only; omega)).trans kr2
  replace fr2 := (hbn.frozen (p := ⟨w.heap.size, 2, none⟩) (by dsimp only; omega)).trans fr2
  replace kr3 := (hbn.cell (p := ⟨w.heap.size, 3, none⟩) (by dsimp only; omega)).trans kr3
  replace fr3 := (hbn.frozen (p := ⟨w.heap.size, 3, none⟩) (by dsimp only; omega)).trans fr3
  replace O1 := hide (O1.out.below hbn)
  replace O2 := hide (O2.out.below hbn)
  replace zr := Nat.lt_of_lt_of_le zr hbn.size
  replace HB := hide (bl_trans HB.out hbn)
  clear hbn
  go_wp2
  refine bodyPost_ret (v := (.tuple #[.agg #[.bool false, .slice none 0 0, .bool false, .slice none 0 0], .bool false])) (by simp [results, Tryz.results22, go_sem, kr0, kr1, kr2, kr3]) rfl ?_
  exact ⟨rfl, set_four (Nat.le_refl _) HB.out _ _ _ _⟩

set_option maxHeartbeats 4000000 in
set_option maxRecDepth 20000 in
theorem rzZU (s D : ByteArray) (o : Option (Nat × Nat)) (P Q : Int) (w : World) (hs : s.size ≤ 400) (ho : rrS D.data.toList = o) (hP : rwN o = P) (hQ : rwD o = Q) (hr : s.toList.isEmpty = true) (hx : s = D) (hF : o.isSome = true) (hf : ftT P Q = false) :
    Calls Tryz.prog 22 #[.string s] w fun e w' => e = .returned (.tuple #[.agg #[.bool false, .slice none 0 0, .bool false, .slice none 0 0], .bool false]) ∧ Below w.heap.size w w' := by
  have HO' := hide ho
  have HP' := hide hP
  have HQ' := hide hQ
  have HF' := hide hF
  have HFF := hide hf
  clear ho hP hQ hF hf
  have hs' : ¬ (400 : Int) < (s.size : Int) := by omega
  subst hx
  have kr0 : (w.alloc (Obj.cells #[Value.bool false, Value.slice none 0 0, Value.bool false, Value.slice none 0 0] 42)).cell? ⟨w.heap.size, 0, none⟩ = some (Value.bool false) := by go_simp
  have fr0 : (w.alloc (Obj.cells #[Value.bool false, Value.slice none 0 0, Value.bool false, Value.slice none 0 0] 42)).frozen? ⟨w.heap.size, 0, none⟩ = false := by go_simp
  have kr1 : (w.alloc (Obj.cells #[Value.bool false, Value.slice none 0 0, Value.bool false, Value.slice none 0 0] 42)).cell? ⟨w.heap.size, 1, none⟩ = some (Value.slice none 0 0) := by go_simp
  have fr1 : (w.alloc (Obj.cells #[Value.bool false, Value.slice none 0 0, Value.bool false, Value.slice none 0 0] 42)).frozen? ⟨w.heap.size, 1, none⟩ = false := by go_simp
  have kr2 : (w.alloc (Obj.cells #[Value.bool false, Value.slice none 0 0, Value.bool false, Value.slice none 0 0] 42)).cell? ⟨w.heap.size, 2, none⟩ = some (Value.bool false) := by go_simp
  have fr2 : (w.alloc (Obj.cells #[Value.bool false, Value.slice none 0 0, Value.bool false, Value.slice none 0 0] 42)).frozen? ⟨w.heap.size, 2, none⟩ = false := by go_simp
  have kr3 : (w.alloc (Obj.cells #[Value.bool false, Value.slice none 0 0, Value.bool false, Value.slice none 0 0] 42)).cell? ⟨w.heap.size, 3, none⟩ = some (Value.slice none 0 0) := by go_simp
  have fr3 : (w.alloc (Obj.cells #[Value.bool false, Value.slice none 0 0, Value.bool false, Value.slice none 0 0] 42)).frozen? ⟨w.heap.size, 3, none⟩ = false := by go_simp
  have zr : w.heap.size < (w.alloc (Obj.cells #[Value.bool false, Value.slice none 0 0, Value.bool false, Value.slice none 0 0] 42)).heap.size := by simp only [World.size_alloc]; omega
  have HB := hide (bl_alloc (bl_refl w) (Obj.cells #[Value.bool false, Value.slice none 0 0, Value.bool false, Value.slice none 0 0] 42))
  go_enter Tryz.func22, Tryz.ntmps22
  go_wp2_with fail
  generalize (w.alloc (Obj.cells #[Value.bool false, Value.slice none 0 0, Value.bool false, Value.slice none 0 0] 42)) = w1 at *
  have z0 := zr
  refine (readS0 s _ hs).mono ?_
  rw [HO'.out]
  unfold RawAns
  rw [HP'.out, HQ'.out, HF'.out]
  rintro e w2 ⟨a1, c1, a2, c2, rfl, ho1, ho2, hap, hb⟩
  have yw2 := hb.size
  replace kr0 := (hb.cell (p := ⟨w.heap.size, 0, none⟩) (by dsimp only; omega)).trans kr0
  replace fr0 := (hb.frozen (p := ⟨w.heap.size, 0, none⟩) (by dsimp only; omega)).trans fr0
  replace kr1 := (hb.cell (p := ⟨w.heap.size, 1, none⟩) (by dsimp only; omega)).trans kr1
  replace fr1 := (hb.frozen (p := ⟨w.heap.size, 1, none⟩) (by dsimp only; omega)).trans fr1
  replace kr2 := (hb.cell (p := ⟨w.heap.size, 2, none⟩) (by dsimp only; omega)).trans kr2
  replace fr2 := (hb.frozen (p := ⟨w.heap.size, 2, none⟩) (by dsimp only; omega)).trans fr2
  replace kr3 := (hb.cell (p := ⟨w.heap.size, 3, none⟩) (by dsimp only; omega)).trans kr3
  replace fr3 := (hb.frozen (p := ⟨w.heap.size, 3, none⟩) (by dsimp only; omega)).trans fr3
  replace zr := Nat.lt_of_lt_of_le zr hb.size
  replace HB := hide (bl_trans HB.out hb)
  clear hb
  have O1 := hide ho1
  have O2 := hide ho2
  have HAP := hide hap
  clear ho1 ho2 hap
  have yw3 : w2.heap.size + 1 ≤ (w2.alloc (Obj.cells #[Value.bool (sgn P), Value.slice a1 (lms P).length c1, Value.bool (sgn Q), Value.slice a2 (lms Q).length c2] 42)).heap.size := by simp only [World.size_alloc]; omega
  have kd0 : (w2.alloc (Obj.cells #[Value.bool (sgn P), Value.slice a1 (lms P).length c1, Value.bool (sgn Q), Value.slice a2 (lms Q).length c2] 42)).cell? ⟨w2.heap.size, 0, none⟩ = some (Value.bool (sgn P)) := by go_simp
  have kd1 : (w2.alloc (Obj.cells #[Value.bool (sgn P), Value.slice a1 (lms P).length c1, Value.bool (sgn Q), Value.slice a2 (lms Q).length c2] 42)).cell? ⟨w2.heap.size, 1, none⟩ = some (Value.slice a1 (lms P).length c1) := by go_simp
  have kd2 : (w2.alloc (Obj.cells #[Value.bool (sgn P), Value.slice a1 (lms P).length c1, Value.bool (sgn Q), Value.slice a2 (lms Q).length c2] 42)).cell? ⟨w2.heap.size, 2, none⟩ = some (Value.bool (sgn Q)) := by go_simp
  have kd3 : (w2.alloc (Obj.cells #[Value.bool (sgn P), Value.slice a1 (lms P).length c1, Value.bool (sgn Q), Value.slice a2 (lms Q).length c2] 42)).cell? ⟨w2.heap.size, 3, none⟩ = some (Value.slice a2 (lms Q).length c2) := by go_simp
  have hbn := (bl_alloc (bl_refl w2) (Obj.cells #[Value.bool (sgn P), Value.slice a1 (lms P).length c1, Value.bool (sgn Q), Value.slice a2 (lms Q).length c2] 42))
  replace kr0 := (hbn.cell (p := ⟨w.heap.size, 0, none⟩) (by dsimp only; omega)).trans kr0
  replace fr0 := (hbn.frozen (p := ⟨w.heap.size, 0, none⟩) (by dsimp only; omega)).trans fr0
  replace kr1 := (hbn.cell (p := ⟨w.heap.size, 1, none⟩) (by dsimp only; omega)).trans kr1
  replace fr1 := (hbn.frozen (p := ⟨w.heap.size, 1, none⟩) (by dsimp only; omega)).trans fr1
  replace kr2 := (hbn.cell (p := ⟨w.heap.size, 2, none⟩) (by dsimp only; omega)).trans kr2
  replace fr2 := (hbn.frozen (p := ⟨w.heap.size, 2, none⟩) (by dsimp only; omega)).trans fr2
  replace kr3 := (hbn.cell (p := ⟨w.heap.size, 3, none⟩) (by dsimp only; omega)).trans kr3
  replace fr3 := (hbn.frozen (p := ⟨w.heap.size, 3, none⟩) (by dsimp only; omega)).trans fr3
  replace O1 := hide (O1.out.below hbn)
  replace O2 := hide (O2.out.below hbn)
  replace zr := Nat.lt_of_lt_of_le zr hbn.size
  replace HB := hide (bl_trans HB.out hbn)
  clear hbn
  go_wp2_with fail
  generalize (w2.alloc (Obj.cells #[Value.bool (sgn P), Value.slice a1 (lms P).length c1, Value.bool (sgn Q), Value.slice a2 (lms Q).length c2] 42)) = w3 at *
  refine (fitS_f P Q a1 c1 a2 c2 _ O1.out.seg O2.out.seg HFF.out).mono ?_
  rintro e w4 ⟨rfl, hb⟩
  have yw4 := hb.size
  replace kr0 := (hb.cell (p := ⟨w.heap.size, 0, none⟩) (by dsimp only; omega)).trans kr0
  replace fr0 := (hb.frozen (p := ⟨w.heap.size, 0, none⟩) (by dsimp only; omega)).trans fr0
  replace kr1 := (hb.cell (p := ⟨w.heap.size, 1, none⟩) (by dsimp only; omega)).trans kr1
  replace fr1 := (hb.frozen (p := ⟨w.heap.size, 1, none⟩) (by dsimp only; omega)).trans fr1
  replace kr2 := (hb.cell (p := ⟨w.heap.size, 2, none⟩) (by dsimp only; omega)).trans kr2
  replace fr2 := (hb.frozen (p := ⟨w.heap.size, 2, none⟩) (by dsimp only; omega)).trans fr2
  replace kr3 := (hb.cell (p := ⟨w.heap.size, 3, none⟩) (by dsimp only; omega)).trans kr3
  replace fr3 := (hb.frozen (p := ⟨w.heap.size, 3, none⟩) (by dsimp only; omega)).trans fr3
  replace kd0 := (hb.cell (p := ⟨w2.heap.size, 0, none⟩) (by dsimp only; omega)).trans kd0
  replace kd1 := (hb.cell (p := ⟨w2.heap.size, 1, none⟩) (by dsimp only; omega)).trans kd1
  replace kd2 := (hb.cell (p := ⟨w2.heap.size, 2, none⟩) (by dsimp only; omega)).trans kd2
  replace kd3 := (hb.cell (p := ⟨w2.heap.size, 3, none⟩) (by dsimp only; omega)).trans kd3
  replace O1 := hide (O1.out.below hb)
  replace O2 := hide (O2.out.below hb)
  replace zr := Nat.lt_of_lt_of_le zr hb.size
  replace HB := hide (bl_trans HB.out hb)
  clear hb
  go_wp2
  refine bodyPost_ret (v := (.tuple #[.agg #[.bool false, .slice none 0 0, .bool false, .slice none 0 0], .bool false])) (by simp [results, Tryz.results22, go_sem, kr0, kr1, kr2, kr3]) rfl ?_
  exact ⟨rfl, set_four (Nat.le_refl _) HB.out _ _ _ _⟩

set_option maxHeartbeats 4000000 in
set_option maxRecDepth 20000 in
theorem rzZF (s D : ByteArray) (o : Option (Nat × Nat)) (P Q : Int) (w : World) (hs : s.size ≤ 400) (ho : rrS D.data.toList = o) (hP : rwN o = P) (hQ : rwD o = Q) (hr : s.toList.isEmpty = true) (hx : s = D) (hF : o.isSome = true) (hf : ftT P Q = true) :
    Calls Tryz.prog 22 #[.string s] w fun e w' => ∃ b1 e1 b2 e2, e = .returned (.tuple #[.agg #[.bool (sgn P), .slice b1 (lms P).length e1, .bool (sgn Q), .slice b2 (lms Q).length e2], .bool true]) ∧ Own w' w.heap.size b1 (lms P).length e1 (lms P) ∧ Own w' w.heap.size b2 (lms Q).length e2 (lms Q) ∧ Apart b1 b2 ∧ Below w.heap.size w w' := by
  have HO' := hide ho
  have HP' := hide hP
  have HQ' := hide hQ
  have HF' := hide hF
  have HFF := hide hf
  clear ho hP hQ hF hf
  have hs' : ¬ (400 : Int) < (s.size : Int) := by omega
  subst hx
  have kr0 : (w.alloc (Obj.cells #[Value.bool false, Value.slice none 0 0, Value.bool false, Value.slice none 0 0] 42)).cell? ⟨w.heap.size, 0, none⟩ = some (Value.bool false) := by go_simp
  have fr0 : (w.alloc (Obj.cells #[Value.bool false, Value.slice none 0 0, Value.bool false, Value.slice none 0 0] 42)).frozen? ⟨w.heap.size, 0, none⟩ = false := by go_simp
  have kr1 : (w.alloc (Obj.cells #[Value.bool false, Value.slice none 0 0, Value.bool false, Value.slice none 0 0] 42)).cell? ⟨w.heap.size, 1, none⟩ = some (Value.slice none 0 0) := by go_simp
  have fr1 : (w.alloc (Obj.cells #[Value.bool false, Value.slice none 0 0, Value.bool false, Value.slice none 0 0] 42)).frozen? ⟨w.heap.size, 1, none⟩ = false := by go_simp
  have kr2 : (w.alloc (Obj.cells #[Value.bool false, Value.slice none 0 0, Value.bool false, Value.slice none 0 0] 42)).cell? ⟨w.heap.size, 2, none⟩ = some (Value.bool false) := by go_simp
  have fr2 : (w.alloc (Obj.cells #[Value.bool false, Value.slice none 0 0, Value.bool false, Value.slice none 0 0] 42)).frozen? ⟨w.heap.size, 2, none⟩ = false := by go_simp
  have kr3 : (w.alloc (Obj.cells #[Value.bool false, Value.slice none 0 0, Value.bool false, Value.slice none 0 0] 42)).cell? ⟨w.heap.size, 3, none⟩ = some (Value.slice none 0 0) := by go_simp
  have fr3 : (w.alloc (Obj.cells #[Value.bool false, Value.slice none 0 0, Value.bool false, Value.slice none 0 0] 42)).frozen? ⟨w.heap.size, 3, none⟩ = false := by go_simp
  have zr : w.heap.size < (w.alloc (Obj.cells #[Value.bool false, Value.slice none 0 0, Value.bool false, Value.slice none 0 0] 42)).heap.size := by simp only [World.size_alloc]; omega
  have HB := hide (bl_alloc (bl_refl w) (Obj.cells #[Value.bool false, Value.slice none 0 0, Value.bool false, Value.slice none 0 0] 42))
  go_enter Tryz.func22, Tryz.ntmps22
  go_wp2_with fail
  generalize (w.alloc (Obj.cells #[Value.bool false, Value.slice none 0 0, Value.bool false, Value.slice none 0 0] 42)) = w1 at *
  have z0 := zr
  refine (readS0 s _ hs).mono ?_
  rw [HO'.out]
  unfold RawAns
  rw [HP'.out, HQ'.out, HF'.out]
  rintro e w2 ⟨a1, c1, a2, c2, rfl, ho1, ho2, hap, hb⟩
  have yw2 := hb.size
  replace kr0 := (hb.cell (p := ⟨w.heap.size, 0, none⟩) (by dsimp only; omega)).trans kr0
  replace fr0 := (hb.frozen (p := ⟨w.heap.size, 0, none⟩) (by dsimp only; omega)).trans fr0
  replace kr1 := (hb.cell (p := ⟨w.heap.size, 1, none⟩) (by dsimp only; omega)).trans kr1
  replace fr1 := (hb.frozen (p := ⟨w.heap.size, 1, none⟩) (by dsimp only; omega)).trans fr1
  replace kr2 := (hb.cell (p := ⟨w.heap.size, 2, none⟩) (by dsimp only; omega)).trans kr2
  replace fr2 := (hb.frozen (p := ⟨w.heap.size, 2, none⟩) (by dsimp only; omega)).trans fr2
  replace kr3 := (hb.cell (p := ⟨w.heap.size, 3, none⟩) (by dsimp only; omega)).trans kr3
  replace fr3 := (hb.frozen (p := ⟨w.heap.size, 3, none⟩) (by dsimp only; omega)).trans fr3
  replace zr := Nat.lt_of_lt_of_le zr hb.size
  replace HB := hide (bl_trans HB.out hb)
  clear hb
  have O1 := hide ho1
  have O2 := hide ho2
  have HAP := hide hap
  clear ho1 ho2 hap
  have yw3 : w2.heap.size + 1 ≤ (w2.alloc (Obj.cells #[Value.bool (sgn P), Value.slice a1 (lms P).length c1, Value.bool (sgn Q), Value.slice a2 (lms Q).length c2] 42)).heap.size := by simp only [World.size_alloc]; omega
  have kd0 : (w2.alloc (Obj.cells #[Value.bool (sgn P), Value.slice a1 (lms P).length c1, Value.bool (sgn Q), Value.slice a2 (lms Q).length c2] 42)).cell? ⟨w2.heap.size, 0, none⟩ = some (Value.bool (sgn P)) := by go_simp
  have kd1 : (w2.alloc (Obj.cells #[Value.bool (sgn P), Value.slice a1 (lms P).length c1, Value.bool (sgn Q), Value.slice a2 (lms Q).length c2] 42)).cell? ⟨w2.heap.size, 1, none⟩ = some (Value.slice a1 (lms P).length c1) := by go_simp
  have kd2 : (w2.alloc (Obj.cells #[Value.bool (sgn P), Value.slice a1 (lms P).length c1, Value.bool (sgn Q), Value.slice a2 (lms Q).length c2] 42)).cell? ⟨w2.heap.size, 2, none⟩ = some (Value.bool (sgn Q)) := by go_simp
  have kd3 : (w2.alloc (Obj.cells #[Value.bool (sgn P), Value.slice a1 (lms P).length c1, Value.bool (sgn Q), Value.slice a2 (lms Q).length c2] 42)).cell? ⟨w2.heap.size, 3, none⟩ = some (Value.slice a2 (lms Q).length c2) := by go_simp
  have hbn := (bl_alloc (bl_refl w2) (Obj.cells #[Value.bool (sgn P), Value.slice a1 (lms P).length c1, Value.bool (sgn Q), Value.slice a2 (lms Q).length c2] 42))
  replace kr0 := (hbn.cell (p := ⟨w.heap.size, 0, none⟩) (by dsimp only; omega)).trans kr0
  replace fr0 := (hbn.frozen (p := ⟨w.heap.size, 0, none⟩) (by dsimp only; omega)).trans fr0
  replace kr1 := (hbn.cell (p := ⟨w.heap.size, 1, none⟩) (by dsimp only; omega)).trans kr1
  replace fr1 := (hbn.frozen (p := ⟨w.heap.size, 1, none⟩) (by dsimp only; omega)).trans fr1
  replace kr2 := (hbn.cell (p := ⟨w.heap.size, 2, none⟩) (by dsimp only; omega)).trans kr2
  replace fr2 := (hbn.frozen (p := ⟨w.heap.size, 2, none⟩) (by dsimp only; omega)).trans fr2
  replace kr3 := (hbn.cell (p := ⟨w.heap.size, 3, none⟩) (by dsimp only; omega)).trans kr3
  replace fr3 := (hbn.frozen (p := ⟨w.heap.size, 3, none⟩) (by dsimp only; omega)).trans fr3
  replace O1 := hide (O1.out.below hbn)
  replace O2 := hide (O2.out.below hbn)
  replace zr := Nat.lt_of_lt_of_le zr hbn.size
  replace HB := hide (bl_trans HB.out hbn)
  clear hbn
  go_wp2_with fail
  generalize (w2.alloc (Obj.cells #[Value.bool (sgn P), Value.slice a1 (lms P).length c1, Value.bool (sgn Q), Value.slice a2 (lms Q).length c2] 42)) = w3 at *
  refine (fitS_t P Q a1 c1 a2 c2 _ O1.out.seg O2.out.seg HFF.out).mono ?_
  rintro e w4 ⟨rfl, hb⟩
  have yw4 := hb.size
  replace kr0 := (hb.cell (p := ⟨w.heap.size, 0, none⟩) (by dsimp only; omega)).trans kr0
  replace fr0 := (hb.frozen (p := ⟨w.heap.size, 0, none⟩) (by dsimp only; omega)).trans fr0
  replace kr1 := (hb.cell (p := ⟨w.heap.size, 1, none⟩) (by dsimp only; omega)).trans kr1
  replace fr1 := (hb.frozen (p := ⟨w.heap.size, 1, none⟩) (by dsimp only; omega)).trans fr1
  replace kr2 := (hb.cell (p := ⟨w.heap.size, 2, none⟩) (by dsimp only; omega)).trans kr2
  replace fr2 := (hb.frozen (p := ⟨w.heap.size, 2, none⟩) (by dsimp only; omega)).trans fr2
  replace kr3 := (hb.cell (p := ⟨w.heap.size, 3, none⟩) (by dsimp only; omega)).trans kr3
  replace fr3 := (hb.frozen (p := ⟨w.heap.size, 3, none⟩) (by dsimp only; omega)).trans fr3
  replace kd0 := (hb.cell (p := ⟨w2.heap.size, 0, none⟩) (by dsimp only; omega)).trans kd0
  replace kd1 := (hb.cell (p := ⟨w2.heap.size, 1, none⟩) (by dsimp only; omega)).trans kd1
  replace kd2 := (hb.cell (p := ⟨w2.heap.size, 2, none⟩) (by dsimp only; omega)).trans kd2
  replace kd3 := (hb.cell (p := ⟨w2.heap.size, 3, none⟩) (by dsimp only; omega)).trans kd3
  replace O1 := hide (O1.out.below hb)
  replace O2 := hide (O2.out.below hb)
  replace zr := Nat.lt_of_lt_of_le zr hb.size
  replace HB := hide (bl_trans HB.out hb)
  clear hb
  go_wp2
  refine bodyPost_ret (v := (.tuple #[Value.agg #[Value.bool (sgn P), Value.slice a1 (lms P).length c1, Value.bool (sgn Q), Value.slice a2 (lms Q).length c2], .bool true])) (by simp [results, Tryz.results22, go_sem, kr0, kr1, kr2, kr3]) rfl ?_
  have h1 := own_four' (lo := w.heap.size) O1.out (show w.heap.size < _ by omega) (by omega) (Value.bool (sgn P)) (Value.slice a1 (lms P).length c1) (Value.bool (sgn Q)) (Value.slice a2 (lms Q).length c2)
  have h2 := own_four' (lo := w.heap.size) O2.out (show w.heap.size < _ by omega) (by omega) (Value.bool (sgn P)) (Value.slice a1 (lms P).length c1) (Value.bool (sgn Q)) (Value.slice a2 (lms Q).length c2)
  exact ⟨_, _, _, _, rfl, h1, h2, HAP.out, set_four (Nat.le_refl _) HB.out _ _ _ _⟩
end Go.Proofs.YtkemplmhemnpbaaGreatDoor

/- ReadRat of the specification at any text: it answers as the program. -/
namespace Go.Proofs.YtkemplmhemnpbaaGreatDoor
open Go.RowKit
set_option linter.unusedVariables false

theorem decV_sm {ds : List UInt8} {k : Int} (hd : digAll ds = true) (hl : ds.length ≤ 800) (hk : k < 1000) : ∃ m, m ≤ 2000 ∧ (decV ds k).1 < 10 ^ m := by
  have hv := valN_lt ds hd
  unfold decV
  split
  · exact ⟨ds.length, by omega, hv⟩
  · refine ⟨ds.length + k.toNat, by omega, ?_⟩
    show valN ds * 10 ^ k.toNat < _
    rw [Nat.pow_add]
    exact Nat.mul_lt_mul_of_pos_right hv (Nat.pow_pos (by decide))
theorem endS_sm {ds : List UInt8} {k : Int} {p : Nat × Nat} (hd : digAll ds = true) (hl : ds.length ≤ 800) (hk : k ≤ 0) : ∀ {r : List UInt8}, endS ds k r = some p → ∃ m, m ≤ 2000 ∧ p.1 < 10 ^ m
  | [], h => by rw [← Option.some.inj h]; exact decV_sm hd hl (by omega)
  | c :: t, h => by
    simp only [endS] at h
    split at h
    · cases hx : expV t with
      | none => rw [hx] at h; cases h
      | some n =>
        have := exp_small hx
        rw [hx] at h; rw [← Option.some.inj h]; exact decV_sm hd hl (by omega)
    · cases h
theorem decS_sm {ds : List UInt8} {p : Nat × Nat} (hd : digAll ds = true) : ∀ {r : List UInt8}, ds.length + r.length ≤ 400 → decS' ds r = some p → ∃ m, m ≤ 2000 ∧ p.1 < 10 ^ m
  | [], hl, h => by simp only [decS'] at h; exact endS_sm hd (by simp at hl; omega) (Int.le_refl _) h
  | c :: t, hl, h => by
    simp only [decS'] at h
    have hlt : (t.takeWhile dg).length ≤ t.length := (List.takeWhile_sublist dg).length_le
    rw [List.length_cons] at hl
    split at h
    · split at h
      · cases h
      · exact endS_sm (digAll_app hd (tw_dig t)) (by rw [List.length_append]; omega) (by omega) h
    · exact endS_sm hd (by omega) (Int.le_refl _) h
theorem rrS_sm {l : List UInt8} {p : Nat × Nat} (hl : l.length ≤ 400) (h : rrS l = some p) : ∃ m, m ≤ 2000 ∧ p.1 < 10 ^ m := by
  unfold rrS at h
  split at h
  · cases h
  · have hd := tw_dig l
    have he := congrArg List.length (List.takeWhile_append_dropWhile (p := dg) (l := l))
    rw [List.length_append] at he
    revert h hd he
    generalize l.takeWhile dg = w
    generalize l.dropWhile dg = r
    intro h hd he
    cases r with
    | nil => simp only [readS'] at h; exact decS_sm hd (by simp at he; simp; omega) h
    | cons c t =>
      simp only [readS'] at h
      split at h
      · split at h
        · rw [← Option.some.inj h]
          have := valN_lt w hd
          exact ⟨w.length, by omega, this⟩
        · cases h
      · exact decS_sm hd (by omega) h
theorem len_sm {a : Nat} {g : Int} (h : ∃ m, m ≤ 2000 ∧ a < 10 ^ m) : (lms ((a : Int) / g)).length ≤ 1000000 := by
  obtain ⟨m, hm, ha⟩ := h
  refine Nat.le_trans (?_ : _ ≤ m) (by omega)
  refine Num.limbs_len.2 ?_
  have h1 : ((a : Int) / g).natAbs ≤ a := by have := Int.natAbs_ediv_le_natAbs (a : Int) g; rwa [Int.natAbs_natCast] at this
  exact Nat.lt_of_le_of_lt h1 (Nat.lt_of_lt_of_le ha (Nat.pow_le_pow_left (by decide) m))
theorem sgG_dvd1 (x y : Int) : sgG x y ∣ x := by
  unfold sgG; split
  · exact Int.neg_dvd.2 (Int.gcd_dvd_left ..)
  · exact Int.gcd_dvd_left ..
theorem sgG_negl (x y : Int) : sgG (-x) y = sgG x y := by unfold sgG; rw [Int.neg_gcd]
theorem div_negl (x y : Int) : -x / sgG (-x) y = -(x / sgG x y) := by
  rw [sgG_negl, Int.neg_ediv_of_dvd (sgG_dvd1 x y)]
theorem fin_yes {X Y P Q : Int} (hP : X / sgG X Y = P) (hQ : Y / sgG X Y = Q) (hy : Y ≠ 0) (hf : ftT P Q = true) {w w' : World} {e : Ending}
    (h : ∃ b1 e1 b2 e2, e = .returned (.tuple #[.agg #[.bool (sgn P), .slice b1 (lms P).length e1, .bool (sgn Q), .slice b2 (lms Q).length e2], .bool true]) ∧ Own w' w.heap.size b1 (lms P).length e1 (lms P) ∧ Own w' w.heap.size b2 (lms Q).length e2 (lms Q) ∧ Apart b1 b2 ∧ Below w.heap.size w w') : RatAns true X Y w w' e := by
  subst hP hQ
  obtain ⟨b1, e1, b2, e2, rfl, h1, h2, h3, h4⟩ := h
  exact ans_yes ((ans_ft rfl hy).trans hf) h1 h2 h3 h4
theorem fin_no {X Y P Q : Int} (hP : X / sgG X Y = P) (hQ : Y / sgG X Y = Q) (hy : Y ≠ 0) (hf : ftT P Q = false) {w w' : World} {e : Ending}
    (h : e = .returned (.tuple #[.agg #[.bool false, .slice none 0 0, .bool false, .slice none 0 0], .bool false]) ∧ Below w.heap.size w w') : RatAns true X Y w w' e := by
  subst hP hQ
  obtain ⟨rfl, h4⟩ := h
  exact ans_no ((ans_ft rfl hy).trans hf) h4
theorem fin_none (X Y : Int) {w w' : World} {e : Ending}
    (h : e = .returned (.tuple #[.agg #[.bool false, .slice none 0 0, .bool false, .slice none 0 0], .bool false]) ∧ Below w.heap.size w w') : RatAns false X Y w w' e := by
  obtain ⟨rfl, h4⟩ := h
  exact ans_no (rt_off _ _) h4

theorem readRatS (s : ByteArray) (w : World) :
    Calls Tryz.prog 22 #[.string s] w fun e w' => RatAns (rrO s).isSome (gotN (rdNeg s) (rrO s)) (gotD (rrO s)) w w' e := by
  by_cases hs : 400 < s.size
  · have e0 : rrO s = none := if_pos hs
    rw [e0]
    exact (rzL s s none 0 0 w hs).mono fun e w' h => fin_none _ _ h
  have hs4 : s.size ≤ 400 := by omega
  have e0 : rrO s = rrS (rdD s).data.toList := by unfold rrO; rw [if_neg hs, rr_eq]
  have hds : (rdD s).data.toList.length ≤ 400 := by
    have := trim_len s.data.toList
    rw [bsize] at this
    show (Lib.trimPrefix s.data.toList [45]).length ≤ 400
    omega
  rw [e0]
  cases ho : rrS (rdD s).data.toList with
  | none =>
    rcases sh_three s with ⟨hg, h0, ⟨h1, h45⟩, hx, hz⟩ | ⟨hg, h0, ⟨h1, h45⟩, hx⟩ | ⟨hg, h0, hx, hz⟩
    · exact (rzNN s _ none 0 0 w hs4 ho rfl rfl (emp_no h1) h1 h45 hx hz rfl).mono fun e w' h => fin_none _ _ h
    · exact (rzPN s _ none 0 0 w hs4 ho rfl rfl (emp_no h1) h1 h45 hx.symm rfl).mono fun e w' h => fin_none _ _ h
    · exact (rzZN s _ none 0 0 w hs4 ho rfl rfl (emp_of hz) hx.symm rfl).mono fun e w' h => fin_none _ _ h
  | some p =>
    obtain ⟨a, b⟩ := p
    have hb : b ≠ 0 := rrS_nz ho
    have hy : (b : Int) ≠ 0 := by omega
    have hsm := rrS_sm hds ho
    show Calls _ _ _ _ fun e w' => RatAns true (mk (rdNeg s) a) (b : Int) w w' e
    rcases sh_three s with ⟨hg, h0, ⟨h1, h45⟩, hx, hz⟩ | ⟨hg, h0, ⟨h1, h45⟩, hx⟩ | ⟨hg, h0, hx, hz⟩
    · have hm : mk (rdNeg s) a = -(a : Int) := by rw [hg]; rfl
      rw [hm]
      have hQ : (b : Int) / sgG (-(a : Int)) b = (b : Int) / sgG a b := by rw [sgG_negl]
      cases hf : ftT (-((a : Int) / sgG a b)) ((b : Int) / sgG a b) with
      | false => exact (rzNU s _ (some (a, b)) _ _ w hs4 ho rfl rfl (emp_no h1) h1 h45 hx hz rfl hf (len_sm hsm)).mono fun e w' h => fin_no (div_negl _ _) hQ hy hf h
      | true => exact (rzNF s _ (some (a, b)) _ _ w hs4 ho rfl rfl (emp_no h1) h1 h45 hx hz rfl hf (len_sm hsm)).mono fun e w' h => fin_yes (div_negl _ _) hQ hy hf h
    · have hm : mk (rdNeg s) a = (a : Int) := by rw [hg]; rfl
      rw [hm]
      cases hf : ftT ((a : Int) / sgG a b) ((b : Int) / sgG a b) with
      | false => exact (rzPU s _ (some (a, b)) _ _ w hs4 ho rfl rfl (emp_no h1) h1 h45 hx.symm rfl hf).mono fun e w' h => fin_no rfl rfl hy hf h
      | true => exact (rzPF s _ (some (a, b)) _ _ w hs4 ho rfl rfl (emp_no h1) h1 h45 hx.symm rfl hf).mono fun e w' h => fin_yes rfl rfl hy hf h
    · have hm : mk (rdNeg s) a = (a : Int) := by rw [hg]; rfl
      rw [hm]
      cases hf : ftT ((a : Int) / sgG a b) ((b : Int) / sgG a b) with
      | false => exact (rzZU s _ (some (a, b)) _ _ w hs4 ho rfl rfl (emp_of hz) hx.symm rfl hf).mono fun e w' h => fin_no rfl rfl hy hf h
      | true => exact (rzZF s _ (some (a, b)) _ _ w hs4 ho rfl rfl (emp_of hz) hx.symm rfl hf).mono fun e w' h => fin_yes rfl rfl hy hf h
end Go.Proofs.YtkemplmhemnpbaaGreatDoor
