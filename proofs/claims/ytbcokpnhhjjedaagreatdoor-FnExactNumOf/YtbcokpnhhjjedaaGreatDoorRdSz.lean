/- The walks of l01Digit and l02Digits: the number of a list of digits, in new memory. -/
import Derived.Test.YtbcokpnhhjjedaaGreatDoorReadN
import Derived.Test.YtbcokpnhhjjedaaGreatDoorPk04
import Derived.Test.YtbcokpnhhjjedaaGreatDoorPk03
import Derived.Test.YtbcokpnhhjjedaaGreatDoorTxC
import Derived.Deep.RegionHeld3
namespace Go.Proofs.YtbcokpnhhjjedaaGreatDoor
open Go.RowKit
set_option linter.unusedVariables false

theorem inRd (n a b : Int) (w : World) : Calls Tryz.prog 63 #[.int .i64 n, .int .i64 a, .int .i64 b] w fun e w' => e = .returned (.bool (decide (a ≤ n ∧ n ≤ b))) ∧ w' = w := by
  by_cases h1 : a ≤ n
  · by_cases h2 : n ≤ b
    · rw [decide_eq_true ⟨h1, h2⟩]
      go_enter Tryz.func63, Tryz.ntmps63
      go_wp2
      go_ret
      exact ⟨rfl, rfl⟩
    · rw [decide_eq_false (fun h => h2 h.2)]
      go_enter Tryz.func63, Tryz.ntmps63
      go_wp2
      go_ret
      exact ⟨rfl, rfl⟩
  · rw [decide_eq_false (fun h => h1 h.1)]
    go_enter Tryz.func63, Tryz.ntmps63
    go_wp2
    go_ret
    exact ⟨rfl, rfl⟩
theorem digRd (c : Nat) (w : World) (hc : c < 256) :
    Calls Tryz.prog 44 #[.int .u8 c] w fun e w' => e = .returned (.bool (digitB c)) ∧ w' = w := by
  go_enter Tryz.func44, Tryz.ntmps44
  go_wp2_with fail
  refine (inRd c 48 57 _).mono ?_
  rintro e w1 ⟨rfl, hw⟩
  subst w1
  go_wp2
  go_ret
  exact ⟨ret_bool (by rw [Bool.eq_iff_iff]; simp [digitB]), rfl⟩

/-- the answer's box and the box of the number so far -/
structure DgSt (w W : World) (q : Int) (av : Option Addr) (cv : Nat) : Prop where
  kR0 : W.cell? ⟨w.heap.size, 0, none⟩ = some (.bool false)
  kR1 : W.cell? ⟨w.heap.size, 1, none⟩ = some (.slice none 0 0)
  fR0 : W.frozen? ⟨w.heap.size, 0, none⟩ = false
  fR1 : W.frozen? ⟨w.heap.size, 1, none⟩ = false
  kV0 : W.cell? ⟨w.heap.size + 1, 0, none⟩ = some (.bool (sgn q))
  kV1 : W.cell? ⟨w.heap.size + 1, 1, none⟩ = some (.slice av (lms q).length cv)
  fV0 : W.frozen? ⟨w.heap.size + 1, 0, none⟩ = false
  fV1 : W.frozen? ⟨w.heap.size + 1, 1, none⟩ = false
  zV : w.heap.size + 1 < W.heap.size
  own : Own W (w.heap.size + 2) av (lms q).length cv (lms q)
  bel : Below w.heap.size w W
theorem DgSt.store {w W W' : World} {q r : Int} {av : Option Addr} {cv : Nat} {ar : Option Addr} {cr : Nat} (h : DgSt w W q av cv) (hb : Below W.heap.size W W') (hN : Own W' W.heap.size ar (lms r).length cr (lms r)) :
    DgSt w ((W'.setCell ⟨w.heap.size + 1, 0, none⟩ (.bool (sgn r))).setCell ⟨w.heap.size + 1, 1, none⟩ (.slice ar (lms r).length cr)) r ar cr := by
  have hz := h.zV
  have hbs := hb.size
  have c (p : Addr) (hp : p.block < W.heap.size) (hne : p.block ≠ w.heap.size + 1) : ((W'.setCell ⟨w.heap.size + 1, 0, none⟩ (.bool (sgn r))).setCell ⟨w.heap.size + 1, 1, none⟩ (.slice ar (lms r).length cr)).cell? p = W.cell? p :=
    (World.cell?_of_block ((Below.heap_setCell _ ⟨w.heap.size + 1, 1, none⟩ _ p.block hne).trans (Below.heap_setCell _ ⟨w.heap.size + 1, 0, none⟩ _ p.block hne))).trans (hb.cell hp)
  have f (p : Addr) (hp : p.block < W.heap.size) (hne : p.block ≠ w.heap.size + 1) : ((W'.setCell ⟨w.heap.size + 1, 0, none⟩ (.bool (sgn r))).setCell ⟨w.heap.size + 1, 1, none⟩ (.slice ar (lms r).length cr)).frozen? p = W.frozen? p :=
    (World.frozen?_of_block ((Below.heap_setCell _ ⟨w.heap.size + 1, 1, none⟩ _ p.block hne).trans (Below.heap_setCell _ ⟨w.heap.size + 1, 0, none⟩ _ p.block hne))).trans (hb.frozen hp)
  have v0 := (hb.cell (p := ⟨w.heap.size + 1, 0, none⟩) hz).trans h.kV0
  have v1 := (hb.cell (p := ⟨w.heap.size + 1, 1, none⟩) hz).trans h.kV1
  have g0 := (hb.frozen (p := ⟨w.heap.size + 1, 0, none⟩) hz).trans h.fV0
  have g1 := (hb.frozen (p := ⟨w.heap.size + 1, 1, none⟩) hz).trans h.fV1
  refine ⟨(c ⟨w.heap.size, 0, none⟩ (by dsimp only; omega) (by dsimp only; omega)).trans h.kR0, (c ⟨w.heap.size, 1, none⟩ (by dsimp only; omega) (by dsimp only; omega)).trans h.kR1,
    (f ⟨w.heap.size, 0, none⟩ (by dsimp only; omega) (by dsimp only; omega)).trans h.fR0, (f ⟨w.heap.size, 1, none⟩ (by dsimp only; omega) (by dsimp only; omega)).trans h.fR1, by go_simp, by go_simp, by go_simp, by go_simp, by simp; omega, ?_, ?_⟩
  · exact ((hN.setCell (p := ⟨w.heap.size + 1, 0, none⟩) hz _).setCell (p := ⟨w.heap.size + 1, 1, none⟩) hz _).mono (by omega)
  · exact ((bl_trans h.bel hb).setCell (p := ⟨w.heap.size + 1, 0, none⟩) (by dsimp only; omega) _).setCell (p := ⟨w.heap.size + 1, 1, none⟩) (by dsimp only; omega) _
theorem lms_many {l : List UInt8} (h : digAll l = true) (m : Nat) (hl : l.length ≤ 2 * m) : (lms (valN l : Int)).length ≤ m := by
  refine Num.limbs_len.2 ?_
  rw [Int.natAbs_natCast]
  have h1 := valN_lt l h
  have h2 : (10 : Nat) ^ l.length ≤ 10 ^ (2 * m) := Nat.pow_le_pow_right (by decide) hl
  rw [Nat.pow_mul] at h2
  exact Nat.lt_of_lt_of_le h1 (Nat.le_trans h2 (Nat.pow_le_pow_left (by decide) _))
theorem lms_short {l : List UInt8} (h : digAll l = true) (hl : l.length ≤ 400) : (lms (valN l : Int)).length ≤ 200 := lms_many h 200 (by omega)
theorem lms_ten {q : Int} (m : Nat) (h : (lms q).length ≤ m) : (lms (q * 10)).length ≤ m + 1 := by
  refine Num.limbs_len.2 ?_
  have h1 := Num.limbs_len.1 h
  rw [Int.natAbs_mul, Nat.pow_succ]
  exact Nat.mul_lt_mul'' h1 (by decide)
theorem dig_take {l : List UInt8} (h : digAll l = true) (k : Nat) : digAll (l.take k) = true := by
  rw [digAll, List.all_eq_true]
  intro x hx
  exact List.all_eq_true.1 h x (List.mem_of_mem_take hx)
theorem dig_here' {s : ByteArray} (h : digAll s.data.toList = true) (k : Nat) (hk : k < s.size) : 48 ≤ s[k].toNat ∧ s[k].toNat ≤ 57 := by
  refine dig_bounds (c := s[k]) ?_
  have := List.all_eq_true.1 h
  exact this s[k] (by rw [show s[k] = s.data.toList[k]'(by simpa using hk) from rfl]; exact List.getElem_mem _)
theorem valN_take' (s : ByteArray) (k : Nat) (h : k < s.size) : valN (s.data.toList.take (k + 1)) = 10 * valN (s.data.toList.take k) + (s[k].toNat - 48) := by
  rw [List.take_succ_eq_append_getElem (by simpa using h), valN_snoc]; rfl

theorem len10 : (lms 10).length ≤ 500000 := Nat.le_trans (Num.limbs_len.2 (show (10 : Int).natAbs < 4294967296 ^ 1 by decide)) (by decide)
theorem len_dig {ch : Int} (h1 : 48 ≤ ch) (h2 : ch ≤ 57) : (lms (ch - 48)).length ≤ 500000 := Nat.le_trans (Num.limbs_len.2 (show (ch - 48).natAbs < 4294967296 ^ 1 by omega)) (by decide)
set_option maxHeartbeats 4000000 in
set_option maxRecDepth 20000 in
theorem digitsS (s : ByteArray) (w : World) (hd : digAll s.data.toList = true) (hs : s.size ≤ 400) :
    Calls Tryz.prog 27 #[.string s] w fun e w' => ∃ v, e = .returned v ∧ New w' w.heap.size v (valN s.data.toList : Int) ∧ Below w.heap.size w w' := by
  have HD := hide hd
  clear hd
  have HP : Hid (DgSt w ((w.alloc (Obj.cells #[Value.bool false, Value.slice none 0 0] 27)).alloc (Obj.cells #[Value.bool false, Value.slice none 0 0] 27)) 0 none 0) := hide
    ⟨by go_simp, by go_simp, by go_simp, by go_simp, by rw [zero_sgn]; go_simp, by rw [zero_lms]; go_simp, by go_simp, by go_simp, by simp only [World.size_alloc]; omega, by rw [zero_lms]; exact Own.nil _ _, bl_alloc (bl_alloc (bl_refl w) _) _⟩
  go_enter Tryz.func27, Tryz.ntmps27
  go_wp2
  go_loopw [4] (fun i wr => ∃ (k : Nat) (av : Option Addr) (cv : Nat), k ≤ s.size ∧ i = .int .i64 k ∧ Hid (DgSt w wr (valN (s.data.toList.take k) : Int) av cv)) (fun i _ => s.size - (intOf i).toNat)
  case atStart =>
    exact ⟨0, none, 0, Nat.zero_le _, rfl, HP⟩
  case round =>
    clear HP
    obtain ⟨k, av, cv, hk, rfl, hP⟩ := hrel
    obtain ⟨kR0, kR1, fR0, fR1, kV0, kV1, fV0, fV1, zV, own, bel⟩ := hP.out
    have HO := hide own
    have HB := hide bel
    clear own bel
    by_cases hlt : k < s.size
    · have hlt' : (k : Int) < (s.size : Int) := by omega
      obtain ⟨hd1', hd2'⟩ := dig_here' HD.out k hlt
      have hd1 : (48 : Int) ≤ (s[k].toNat : Int) := by omega
      have hd2 : (s[k].toNat : Int) ≤ 57 := by omega
      have HV := hide (valN_take' s k hlt)
      have hl0 := lms_short (dig_take HD.out k) (by rw [List.length_take, bsize]; omega)
      have hl1 := lms_short (dig_take HD.out (k + 1)) (by rw [List.length_take, bsize]; omega)
      generalize valN (s.data.toList.take k) = q at *
      obtain ⟨q1, hq1⟩ : ∃ q1, valN (s.data.toList.take (k + 1)) = q1 := ⟨_, rfl⟩
      rw [hq1] at hl1 HV
      have HQ1 := hide hq1
      clear hq1
      have hw48 : IntKind.i64.wrap ((s[k].toNat : Int) - 48) = (s[k].toNat : Int) - 48 := by rw [IntKind.wrap_i64]; omega
      have hw0 : IntKind.i64.wrap (s[k].toNat : Int) = (s[k].toNat : Int) := by rw [IntKind.wrap_i64]; omega
      have hk0 : (0 : Int) ≤ (k : Int) := by omega
      have HQ : Hid ((q : Int) * 10 + ((s[k].toNat : Int) - 48) = (q1 : Int)) := hide (by have := HV.out; omega)
      have HL10 := hide (lms_ten 200 hl0)
      go_wp2_with fail
      go_region_with
        (first
          | (go_at_call_of 47 (Value.int IntKind.i64 10); refine (fromS 10 _ (by decide) (by decide)).mono ?_; rintro e wA ⟨vA, rfl, ⟨aA, cA, rfl, hoA⟩, hbAr⟩; have hbA : Below wr.heap.size wr wA := (bl_refl wr).drew.trans hbAr; have yA := hbA.size; have kV0 := (hbAr.cell (p := ⟨w.heap.size + 1, 0, none⟩) (by dsimp only; rw [World.size_drew]; omega)).trans kV0; have kV1 := (hbAr.cell (p := ⟨w.heap.size + 1, 1, none⟩) (by dsimp only; rw [World.size_drew]; omega)).trans kV1)
          | (go_at_call 46; refine (mulS (.agg #[.bool (sgn (q : Int)), .slice av (lms (q : Int)).length cv]) (.agg #[.bool (sgn 10), .slice aA (lms 10).length cA]) (q : Int) 10 _ ⟨av, cv, rfl, HO.out.seg.below hbA⟩ ⟨aA, cA, rfl, hoA.seg⟩ (by omega) len10).mono ?_; rintro e wB ⟨vB, rfl, ⟨aB, cB, rfl, hoB⟩, hbBr⟩; have hbB : Below wr.heap.size wr wB := bl_trans hbA hbBr; have yB := hbBr.size; have kV0 := (hbBr.cell (p := ⟨w.heap.size + 1, 0, none⟩) (by dsimp only; omega)).trans kV0; have kV1 := (hbBr.cell (p := ⟨w.heap.size + 1, 1, none⟩) (by dsimp only; omega)).trans kV1)
          | (go_at_call 47; (try rw [hw0]); (try rw [hw48]); refine (fromS ((s[k].toNat : Int) - 48) _ (by omega) (by omega)).mono ?_; rintro e wC ⟨vC, rfl, ⟨aC, cC, rfl, hoC⟩, hbCr⟩; have hbC : Below wr.heap.size wr wC := bl_trans hbB hbCr; have yC := hbCr.size; have kV0 := (hbCr.cell (p := ⟨w.heap.size + 1, 0, none⟩) (by dsimp only; omega)).trans kV0; have kV1 := (hbCr.cell (p := ⟨w.heap.size + 1, 1, none⟩) (by dsimp only; omega)).trans kV1)
          | (go_at_call 45; refine (addS (.agg #[.bool (sgn ((q : Int) * 10)), .slice aB (lms ((q : Int) * 10)).length cB]) (.agg #[.bool (sgn ((s[k].toNat : Int) - 48)), .slice aC (lms ((s[k].toNat : Int) - 48)).length cC]) ((q : Int) * 10) ((s[k].toNat : Int) - 48) _ ⟨aB, cB, rfl, hoB.seg.below hbCr⟩ ⟨aC, cC, rfl, hoC.seg⟩ (Nat.le_trans HL10.out (by decide)) (len_dig hd1 hd2)).mono ?_; rw [HQ.out]; rintro e wD ⟨vD, rfl, ⟨aD, cD, rfl, hoD⟩, hbDr⟩; have hbD : Below wr.heap.size wr wD := bl_trans hbC hbDr; have yD := hbDr.size; have HP8 := hide (hP.out.store hbD (hoD.mono (base' := wr.heap.size) (by omega))); have fV0 := (hbD.frozen (p := ⟨w.heap.size + 1, 0, none⟩) zV).trans fV0; have fV1 := (hbD.frozen (p := ⟨w.heap.size + 1, 1, none⟩) zV).trans fV1; have kV0 := (hbDr.cell (p := ⟨w.heap.size + 1, 0, none⟩) (by dsimp only; omega)).trans kV0; have kV1 := (hbDr.cell (p := ⟨w.heap.size + 1, 1, none⟩) (by dsimp only; omega)).trans kV1))
      all_goals go_wp2
      all_goals exact ⟨⟨k + 1, aD, cD, by omega, by go_num, hide (by rw [HQ1.out]; exact HP8.out)⟩, by simp [intOf]; omega⟩
    · have HE : Hid ((valN (s.data.toList.take k) : Int) = (valN s.data.toList : Int)) := hide (by rw [List.take_of_length_le (by rw [bsize]; omega)])
      have HN : Hid (∀ x y, New ((wr.setCell ⟨w.heap.size, 0, none⟩ x).setCell ⟨w.heap.size, 1, none⟩ y) w.heap.size (.agg #[.bool (sgn (valN (s.data.toList.take k) : Int)), .slice av (lms (valN (s.data.toList.take k) : Int)).length cv]) (valN s.data.toList : Int)) := hide (fun x y => by
        rw [HE.out] at HO ⊢
        exact ⟨av, cv, rfl, ((HO.out.setCell (p := ⟨w.heap.size, 0, none⟩) (by dsimp only; omega) _).setCell (p := ⟨w.heap.size, 1, none⟩) (by dsimp only; omega) _).mono (by omega)⟩)
      clear HE
      generalize (valN (s.data.toList.take k) : Int) = q at *
      go_wp2
      refine bodyPost_ret (v := .agg #[.bool (sgn q), .slice av (lms q).length cv]) (by simp [results, Tryz.results27, go_sem, kR0, kR1]) rfl ?_
      exact ⟨_, rfl, HN.out _ _, (HB.out.setCell (p := ⟨w.heap.size, 0, none⟩) (Nat.le_refl _) _).setCell (p := ⟨w.heap.size, 1, none⟩) (Nat.le_refl _) _⟩
end Go.Proofs.YtbcokpnhhjjedaaGreatDoor
