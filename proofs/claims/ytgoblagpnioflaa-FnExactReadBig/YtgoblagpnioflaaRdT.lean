/- The walk of the specification's ReadBig: the number of a numeral, in new memory, where the text is that number's. -/
import Derived.Test.YtgoblagpnioflaaRdL
import Derived.Test.YtgoblagpnioflaaRdS
import Derived.Test.YtgoblagpnioflaaSubS
namespace Go.Proofs.Ytgoblagpnioflaa
open Go.RowKit
set_option linter.unusedVariables false

theorem neg_iff (s : ByteArray) (h : 0 < s.size) : rdNeg s = decide (s[0].toNat = 45) := by
  have hl : 0 < s.data.toList.length := by rw [bsize]; exact h
  have e : s.data.toList = s[0] :: s.data.toList.drop 1 := by
    have := List.drop_eq_getElem_cons (l := s.data.toList) (i := 0) hl
    rw [List.drop_zero] at this; exact this
  unfold rdNeg Lib.hasPrefix
  rw [e]
  simp only [List.isPrefixOf]
  rw [Bool.and_true, Bool.eq_iff_iff]
  simp only [beq_iff_eq, decide_eq_true_eq]
  constructor
  · intro h; rw [← h]; rfl
  · intro h; exact UInt8.toNat_inj.1 (by rw [h]; rfl)
theorem cut_pos {s : ByteArray} (h : rdNeg s = true) : rdD s = s.extract 1 s.size := by
  have hc := rd_cut s
  rw [if_pos h] at hc
  refine ByteArray.ext (Array.ext' ?_)
  have e : (s.extract 1 s.size).data.toList = s.data.toList.drop 1 := by
    rw [ByteArray.data_extract, Array.toList_extract]
    rw [List.extract_eq_take_drop]
    rw [List.take_of_length_le (by rw [List.length_drop, bsize]; omega)]
  rw [e, hc]; rfl
theorem cut_neg {s : ByteArray} (h : rdNeg s = false) : rdD s = s := by
  have hc := rd_cut s
  rw [if_neg (by rw [h]; simp)] at hc
  exact ByteArray.ext (Array.ext' hc.symm)
theorem ok_fits (z : Int) : okB (sgn z) (lms z) = fits z := ok_of_num z

/-- the answer's box, and a box X of a number -/
structure BxSt (w W : World) (X : Nat) (q : Int) (av : Option Addr) (cv : Nat) : Prop where
  k0 : W.cell? ⟨w.heap.size, 0, none⟩ = some (.bool false)
  k1 : W.cell? ⟨w.heap.size, 1, none⟩ = some (.slice none 0 0)
  f0 : W.frozen? ⟨w.heap.size, 0, none⟩ = false
  f1 : W.frozen? ⟨w.heap.size, 1, none⟩ = false
  x0 : W.cell? ⟨X, 0, none⟩ = some (.bool (sgn q))
  x1 : W.cell? ⟨X, 1, none⟩ = some (.slice av (lms q).length cv)
  g0 : W.frozen? ⟨X, 0, none⟩ = false
  g1 : W.frozen? ⟨X, 1, none⟩ = false
  zw : w.heap.size < X
  zX : X < W.heap.size
  own : Own W (w.heap.size + 1) av (lms q).length cv (lms q)
  bel : Below w.heap.size w W
theorem BxSt.below {w W W' : World} {X : Nat} {q : Int} {av : Option Addr} {cv : Nat} (h : BxSt w W X q av cv) (hb : Below W.heap.size W W') : BxSt w W' X q av cv :=
  have hz := Nat.lt_trans h.zw h.zX
  ⟨(hb.cell (p := ⟨w.heap.size, 0, none⟩) hz).trans h.k0, (hb.cell (p := ⟨w.heap.size, 1, none⟩) hz).trans h.k1, (hb.frozen (p := ⟨w.heap.size, 0, none⟩) hz).trans h.f0, (hb.frozen (p := ⟨w.heap.size, 1, none⟩) hz).trans h.f1,
   (hb.cell (p := ⟨X, 0, none⟩) h.zX).trans h.x0, (hb.cell (p := ⟨X, 1, none⟩) h.zX).trans h.x1, (hb.frozen (p := ⟨X, 0, none⟩) h.zX).trans h.g0, (hb.frozen (p := ⟨X, 1, none⟩) h.zX).trans h.g1, h.zw, Nat.lt_of_lt_of_le h.zX hb.size, h.own.below hb, bl_trans h.bel hb⟩
theorem BxSt.store {w W W' : World} {X : Nat} {q r : Int} {av : Option Addr} {cv : Nat} {ar : Option Addr} {cr : Nat} (h : BxSt w W X q av cv) (hb : Below W.heap.size W W') (hN : Own W' W.heap.size ar (lms r).length cr (lms r)) :
    BxSt w ((W'.setCell ⟨X, 0, none⟩ (.bool (sgn r))).setCell ⟨X, 1, none⟩ (.slice ar (lms r).length cr)) X r ar cr := by
  have hz := h.zX
  have hw := h.zw
  have hbs := hb.size
  have c (p : Addr) (hp : p.block < W.heap.size) (hne : p.block ≠ X) : ((W'.setCell ⟨X, 0, none⟩ (.bool (sgn r))).setCell ⟨X, 1, none⟩ (.slice ar (lms r).length cr)).cell? p = W.cell? p :=
    (World.cell?_of_block ((Below.heap_setCell _ ⟨X, 1, none⟩ _ p.block hne).trans (Below.heap_setCell _ ⟨X, 0, none⟩ _ p.block hne))).trans (hb.cell hp)
  have f (p : Addr) (hp : p.block < W.heap.size) (hne : p.block ≠ X) : ((W'.setCell ⟨X, 0, none⟩ (.bool (sgn r))).setCell ⟨X, 1, none⟩ (.slice ar (lms r).length cr)).frozen? p = W.frozen? p :=
    (World.frozen?_of_block ((Below.heap_setCell _ ⟨X, 1, none⟩ _ p.block hne).trans (Below.heap_setCell _ ⟨X, 0, none⟩ _ p.block hne))).trans (hb.frozen hp)
  have v0 := (hb.cell (p := ⟨X, 0, none⟩) hz).trans h.x0
  have v1 := (hb.cell (p := ⟨X, 1, none⟩) hz).trans h.x1
  have g0 := (hb.frozen (p := ⟨X, 0, none⟩) hz).trans h.g0
  have g1 := (hb.frozen (p := ⟨X, 1, none⟩) hz).trans h.g1
  refine ⟨(c ⟨w.heap.size, 0, none⟩ (by dsimp only; omega) (by dsimp only; omega)).trans h.k0, (c ⟨w.heap.size, 1, none⟩ (by dsimp only; omega) (by dsimp only; omega)).trans h.k1,
    (f ⟨w.heap.size, 0, none⟩ (by dsimp only; omega) (by dsimp only; omega)).trans h.f0, (f ⟨w.heap.size, 1, none⟩ (by dsimp only; omega) (by dsimp only; omega)).trans h.f1, by go_simp, by go_simp, by go_simp, by go_simp, hw, by simp; omega, ?_, ?_⟩
  · exact ((hN.setCell (p := ⟨X, 0, none⟩) hz _).setCell (p := ⟨X, 1, none⟩) hz _).mono (by omega)
  · exact ((bl_trans h.bel hb).setCell (p := ⟨X, 0, none⟩) (by dsimp only; omega) _).setCell (p := ⟨X, 1, none⟩) (by dsimp only; omega) _
theorem rd_rej {s : ByteArray} (h : rdOk s = true → fits (rdV s) = false) : rdZ s = 0 ∧ rdF s = false := by
  cases ho : rdOk s with
  | false => exact rd_no ho
  | true => have := h ho; rw [(rd_yes ho).1, (rd_yes ho).2, fitZ, this]; exact ⟨rfl, rfl⟩
theorem rd_acc {s : ByteArray} (h : rdOk s = true) (hf : fits (rdV s) = true) : rdZ s = rdV s ∧ rdF s = true := by
  rw [(rd_yes h).1, (rd_yes h).2, fitZ, hf]; exact ⟨rfl, rfl⟩
theorem rd_nodig {s : ByteArray} (h : digOk (rdD s) = false) : rdZ s = 0 ∧ rdF s = false := rd_no (by unfold rdOk; rw [h]; simp)
theorem rd_okd {s : ByteArray} (h4 : s.size ≤ 400) (h : digOk (rdD s) = true) : rdOk s = !rdLead s := by
  unfold rdOk; rw [decide_eq_true h4, h, Bool.true_and, Bool.true_and]
theorem fits_len {z : Int} (h : fits z = true) : (lms z).length ≤ 40 := Num.limbs_len.2 (of_decide_eq_true h)

set_option maxHeartbeats 8000000 in
set_option maxRecDepth 20000 in
theorem readBigS (s : ByteArray) (w : World) (hs : s.size ≤ 140737488355328) :
    Calls Try.prog 4 #[.string s] w fun e w' => ∃ v, e = .returned (.tuple #[v, .bool (rdF s)]) ∧ New w' w.heap.size v (rdZ s) ∧ Below w.heap.size w w' := by
  have k0 : (w.alloc (Obj.cells #[Value.bool false, Value.slice none 0 0] 24)).cell? ⟨w.heap.size, 0, none⟩ = some (Value.bool false) := by go_simp
  have k1 : (w.alloc (Obj.cells #[Value.bool false, Value.slice none 0 0] 24)).cell? ⟨w.heap.size, 1, none⟩ = some (Value.slice none 0 0) := by go_simp
  have f0 : (w.alloc (Obj.cells #[Value.bool false, Value.slice none 0 0] 24)).frozen? ⟨w.heap.size, 0, none⟩ = false := by go_simp
  have f1 : (w.alloc (Obj.cells #[Value.bool false, Value.slice none 0 0] 24)).frozen? ⟨w.heap.size, 1, none⟩ = false := by go_simp
  have z1 : w.heap.size < (w.alloc (Obj.cells #[Value.bool false, Value.slice none 0 0] 24)).heap.size := by simp only [World.size_alloc]; omega
  have HB := hide (bl_alloc (bl_refl w) (Obj.cells #[Value.bool false, Value.slice none 0 0] 24))
  go_enter Try.func4, Try.ntmps4
  go_wp2_with fail
  generalize w.alloc (Obj.cells #[Value.bool false, Value.slice none 0 0] 24) = W0 at *
  refine (inS s.size 1 400 _).mono ?_
  rintro e w1 ⟨rfl, hw⟩
  subst w1
  by_cases h4 : 1 ≤ s.size ∧ s.size ≤ 400
  · rw [decide_eq_true (by omega)]
    have hp : 0 < s.size := h4.1
    have hp' : (0 : Int) < (s.size : Int) := by omega
    have hp1 : (1 : Int) ≤ (s.size : Int) := by omega
    have hds := rdD_size s
    have hni := neg_iff s hp
    obtain ⟨D, hD⟩ : ∃ D : ByteArray, D = rdD s := ⟨_, rfl⟩
    have HDR := hide hD
    rw [← hD] at hds
    have hsp : (rdNeg s = true ∧ (s[0].toNat : Int) = 45 ∧ s.extract 1 s.size = D) ∨ (rdNeg s = false ∧ ((s[0].toNat : Int) == 45) = false ∧ s = D) := by
      cases hg : rdNeg s with
      | true => rw [hg] at hni; exact .inl ⟨rfl, by have := of_decide_eq_true hni.symm; omega, by rw [hD]; exact (cut_pos hg).symm⟩
      | false => rw [hg] at hni; exact .inr ⟨rfl, by have := of_decide_eq_false hni.symm; rw [beq_eq_false_iff_ne]; omega, by rw [hD]; exact (cut_neg hg).symm⟩
    clear hD hni
    rcases hsp with ⟨hg, h45, hDe⟩ | ⟨hg, h45, hDe⟩
    · have HG := hide hg
      clear hg
      go_wp2
      go_loop [5] (fun i => ∃ k : Nat, k ≤ D.size ∧ i = .int .i64 k ∧ Hid (digAll D.data.toList = digFrom D k)) (fun i => D.size - (intOf i).toNat)
      case atStart => exact ⟨0, Nat.zero_le _, rfl, hide (by unfold digFrom; rw [List.drop_zero])⟩
      case round =>
        obtain ⟨k, hk, rfl, hr⟩ := hrel
        by_cases hlt : k < D.size
        · have hlt' : (k : Int) < (D.size : Int) := by omega
          have hst := dig_step D k hlt
          have hb8 : D[k].toNat < 256 := UInt8.toNat_lt _
          cases hdg : digitB (D[k].toNat : Int) with
          | true =>
            have HR : Hid (digAll D.data.toList = digFrom D (k + 1)) := hide (by rw [hr.out, hst, hdg]; simp)
            have HDG := hide hdg
            clear hr hst hdg
            go_wp2_with (first | (go_at_call 10; refine (digitS _ _ hb8).mono ?_; rw [HDG.out]; rintro e w1 ⟨rfl, hw⟩; subst w1))
            exact ⟨⟨k + 1, by omega, by go_num, HR⟩, by simp [intOf]; omega⟩
          | false =>
            have HNO := hide (rd_nodig (s := s) (by rw [← HDR.out]; unfold digOk; rw [hr.out, hst, hdg]; rfl))
            have HDG := hide hdg
            clear hr hst hdg
            go_wp2_with (first | (go_at_call 10; refine (digitS _ _ hb8).mono ?_; rw [HDG.out]; rintro e w1 ⟨rfl, hw⟩; subst w1))
            refine bodyPost_ret (v := .tuple #[.agg #[.bool false, .slice none 0 0], .bool false]) (by simp [results, Try.results4, go_sem, *]) rfl ?_
            exact ⟨_, by rw [HNO.out.2], by rw [HNO.out.1]; exact new_zero _ _, (HB.out.setCell (p := ⟨w.heap.size, 0, none⟩) (Nat.le_refl _) _).setCell (p := ⟨w.heap.size, 1, none⟩) (Nat.le_refl _) _⟩
        · have HDA : Hid (digAll D.data.toList = true) := hide (by rw [hr.out, dig_end D k (by omega)])
          clear hr
          have hkl : (D.size : Int) ≤ (k : Int) := by omega
          obtain ⟨m, hm⟩ : ∃ m, valN D.data.toList = m := ⟨_, rfl⟩
          have HM := hide hm
          have hml : (lms (m : Int)).length ≤ 200 := by rw [← hm]; exact lms_short HDA.out (by rw [bsize]; omega)
          have HV : Hid (rdV s = -(m : Int)) := hide (by unfold rdV; rw [← HDR.out, HG.out, hm]; rfl)
          clear hm
          go_wp2_with fail
          refine (digitsS D _ HDA.out (by omega)).mono ?_
          rw [HM.out]
          rintro e w2 ⟨v2, rfl, ⟨a2, c2, rfl, ho2⟩, hb2⟩
          have hb2s := hb2.size
          have z0 := z1
          replace k0 := (hb2.cell (p := ⟨w.heap.size, 0, none⟩) z1).trans k0
          replace k1 := (hb2.cell (p := ⟨w.heap.size, 1, none⟩) z1).trans k1
          replace f0 := (hb2.frozen (p := ⟨w.heap.size, 0, none⟩) z1).trans f0
          replace f1 := (hb2.frozen (p := ⟨w.heap.size, 1, none⟩) z1).trans f1
          replace z1 := Nat.lt_of_lt_of_le z1 hb2s
          replace HB := hide (bl_trans HB.out hb2)
          have HS : Hid (BxSt w (w2.alloc (Obj.cells #[Value.bool (sgn (m : Int)), Value.slice a2 (lms (m : Int)).length c2] 24)) w2.heap.size (m : Int) a2 c2) := hide (by
            have hbl := bl_alloc (bl_refl w2) (Obj.cells #[Value.bool (sgn (m : Int)), Value.slice a2 (lms (m : Int)).length c2] 24)
            exact ⟨(hbl.cell (p := ⟨w.heap.size, 0, none⟩) z1).trans k0, (hbl.cell (p := ⟨w.heap.size, 1, none⟩) z1).trans k1, (hbl.frozen (p := ⟨w.heap.size, 0, none⟩) z1).trans f0, (hbl.frozen (p := ⟨w.heap.size, 1, none⟩) z1).trans f1, by go_simp, by go_simp, by go_simp, by go_simp, z1, by simp only [World.size_alloc]; omega, (ho2.below hbl).mono (by omega), bl_trans HB.out hbl⟩)
          clear ho2 hb2 k0 k1 f0 f1 HB
          obtain ⟨k0, k1, f0, f1, x0, x1, g0, g1, zw, zX, own, bel⟩ := HS.out
          have HO := hide own
          have HB := hide bel
          clear own bel
          by_cases hE : D.size ≠ 0
          · have hE' : D.toList.isEmpty = false := by (have := size_nil D; rw [decide_eq_true hE] at this; simpa using this)
            have HNE : Hid (D.data.toList ≠ []) := hide (fun e => hE (by rw [← bsize, e]; rfl))
            go_wp2_with fail
            generalize w2.alloc (Obj.cells #[Value.bool (sgn (m : Int)), Value.slice a2 (lms (m : Int)).length c2] 24) = w3 at *
            refine (negS _ (m : Int) _ ⟨a2, c2, rfl, HO.out.seg⟩ (by omega)).mono ?_
            rintro e w4 ⟨v4, rfl, ⟨a4, c4, rfl, ho4⟩, hb4⟩
            have HS4 := hide (HS.out.store hb4 ho4)
            have HSB := hide (HS.out.below hb4)
            clear k0 k1 f0 f1 x0 x1 g0 g1 zw zX HO HB
            obtain ⟨k0, k1, f0, f1, x0, x1, g0, g1, zw, zX, own, bel⟩ := HSB.out
            clear own bel HSB ho4 hb4 HS
            go_wp2_with fail
            clear k0 k1 f0 f1 x0 x1 g0 g1 zw zX
            have HS := HS4
            clear HS4
            generalize (w4.setCell ⟨w2.heap.size, 0, none⟩ (Value.bool (sgn (-(m : Int))))).setCell ⟨w2.heap.size, 1, none⟩ (Value.slice a4 (lms (-(m : Int))).length c4) = w5 at *
            refine (okS _ (sgn (-(m : Int))) (lms (-(m : Int))) _ ⟨a4, c4, rfl, HS.out.own.seg⟩).mono ?_
            rintro e w6 ⟨rfl, hb6⟩
            rw [ok_fits]
            replace HS := hide (HS.out.below hb6)
            clear hb6
            obtain ⟨k0, k1, f0, f1, x0, x1, g0, g1, zw, zX, own, bel⟩ := HS.out
            have HO := hide own
            have HB := hide bel
            clear own bel
            cases hf : fits (-(m : Int)) with
            | false =>
              have HNO := hide (rd_rej (s := s) (fun _ => by rw [HV.out]; exact hf))
              go_wp2
              refine bodyPost_ret (v := .tuple #[.agg #[.bool false, .slice none 0 0], .bool false]) (by simp [results, Try.results4, go_sem, *]) rfl ?_
              exact ⟨_, by rw [HNO.out.2], by rw [HNO.out.1]; exact new_zero _ _, (HB.out.setCell (p := ⟨w.heap.size, 0, none⟩) (Nat.le_refl _) _).setCell (p := ⟨w.heap.size, 1, none⟩) (Nat.le_refl _) _⟩
            | true =>
              go_wp2_with fail
              refine (txtS _ (-(m : Int)) _ ⟨a4, c4, rfl, HO.out.seg⟩ (fits_len hf)).mono ?_
              rintro e w7 ⟨rfl, hb7⟩
              replace HS := hide (HS.out.below hb7)
              clear hb7 k0 k1 f0 f1 x0 x1 g0 g1 zw zX HO HB
              obtain ⟨k0, k1, f0, f1, x0, x1, g0, g1, zw, zX, own, bel⟩ := HS.out
              have HO := hide own
              have HB := hide bel
              clear own bel
              have HTI := hide (text_iff (s := s) (by rw [← HDR.out]; exact HDA.out) (by rw [← HDR.out]; exact HNE.out))
              rw [HV.out] at HTI
              have HOK := hide (rd_okd (s := s) h4.2 (by rw [← HDR.out]; unfold digOk; rw [HDA.out, decide_eq_true hE]; rfl))
              by_cases ht : (itB (-(m : Int))).data.toList = s.data.toList
              · have hcmp : ((itB (-(m : Int))).toList == s.toList) = true := by rw [ByteArray.toList_eq, ByteArray.toList_eq, beq_iff_eq]; exact ht
                have HAC := hide (rd_acc (s := s) (by rw [HOK.out, HTI.out.1 ht]; rfl) (by rw [HV.out]; exact hf))
                rw [HV.out] at HAC
                clear HTI HOK ht
                generalize itB (-(m : Int)) = tx at *
                go_wp2
                refine bodyPost_ret (v := .tuple #[.agg #[.bool (sgn (-(m : Int))), .slice a4 (lms (-(m : Int))).length c4], .bool true]) (by simp [results, Try.results4, go_sem, *]) rfl ?_
                exact ⟨_, by rw [HAC.out.2], by rw [HAC.out.1]; exact ⟨a4, c4, rfl, ((HO.out.setCell (p := ⟨w.heap.size, 0, none⟩) (by dsimp only; omega) _).setCell (p := ⟨w.heap.size, 1, none⟩) (by dsimp only; omega) _).mono (by omega)⟩, (HB.out.setCell (p := ⟨w.heap.size, 0, none⟩) (Nat.le_refl _) _).setCell (p := ⟨w.heap.size, 1, none⟩) (Nat.le_refl _) _⟩
              · have hcmp : ((itB (-(m : Int))).toList == s.toList) = false := by rw [ByteArray.toList_eq, ByteArray.toList_eq, beq_eq_false_iff_ne]; exact ht
                have HNO := hide (rd_rej (s := s) (fun hok => absurd (HTI.out.2 (by rw [HOK.out] at hok; cases hq : rdLead s with | false => rfl | true => rw [hq] at hok; cases hok)) ht))
                clear HTI HOK ht
                generalize itB (-(m : Int)) = tx at *
                go_wp2
                refine bodyPost_ret (v := .tuple #[.agg #[.bool false, .slice none 0 0], .bool false]) (by simp [results, Try.results4, go_sem, *]) rfl ?_
                exact ⟨_, by rw [HNO.out.2], by rw [HNO.out.1]; exact new_zero _ _, (HB.out.setCell (p := ⟨w.heap.size, 0, none⟩) (Nat.le_refl _) _).setCell (p := ⟨w.heap.size, 1, none⟩) (Nat.le_refl _) _⟩
          · have hE' : D.toList.isEmpty = true := by (have := size_nil D; rw [decide_eq_false hE] at this; simpa using this)
            have HNO := hide (rd_nodig (s := s) (by rw [← HDR.out]; unfold digOk; rw [decide_eq_false hE, Bool.and_false]))
            go_wp2_with fail
            generalize w2.alloc (Obj.cells #[Value.bool (sgn (m : Int)), Value.slice a2 (lms (m : Int)).length c2] 24) = w3 at *
            refine (negS _ (m : Int) _ ⟨a2, c2, rfl, HO.out.seg⟩ (by omega)).mono ?_
            rintro e w4 ⟨v4, rfl, ⟨a4, c4, rfl, ho4⟩, hb4⟩
            have HS4 := hide (HS.out.store hb4 ho4)
            have HSB := hide (HS.out.below hb4)
            clear k0 k1 f0 f1 x0 x1 g0 g1 zw zX HO HB
            obtain ⟨k0, k1, f0, f1, x0, x1, g0, g1, zw, zX, own, bel⟩ := HSB.out
            clear own bel HSB ho4 hb4 HS
            have HB4 := hide HS4.out.bel
            have q0 := HS4.out.k0
            have q1 := HS4.out.k1
            have q2 := HS4.out.f0
            have q3 := HS4.out.f1
            go_wp2
            refine bodyPost_ret (v := .tuple #[.agg #[.bool false, .slice none 0 0], .bool false]) (by simp [results, Try.results4, go_sem, *]) rfl ?_
            exact ⟨_, by rw [HNO.out.2], by rw [HNO.out.1]; exact new_zero _ _, (HB4.out.setCell (p := ⟨w.heap.size, 0, none⟩) (Nat.le_refl _) _).setCell (p := ⟨w.heap.size, 1, none⟩) (Nat.le_refl _) _⟩
    · have HG := hide hg
      clear hg
      subst hDe
      go_wp2
      go_loop [5] (fun i => ∃ k : Nat, k ≤ s.size ∧ i = .int .i64 k ∧ Hid (digAll s.data.toList = digFrom s k)) (fun i => s.size - (intOf i).toNat)
      case atStart => exact ⟨0, Nat.zero_le _, rfl, hide (by unfold digFrom; rw [List.drop_zero])⟩
      case round =>
        obtain ⟨k, hk, rfl, hr⟩ := hrel
        by_cases hlt : k < s.size
        · have hlt' : (k : Int) < (s.size : Int) := by omega
          have hst := dig_step s k hlt
          have hb8 : s[k].toNat < 256 := UInt8.toNat_lt _
          cases hdg : digitB (s[k].toNat : Int) with
          | true =>
            have HR : Hid (digAll s.data.toList = digFrom s (k + 1)) := hide (by rw [hr.out, hst, hdg]; simp)
            have HDG := hide hdg
            clear hr hst hdg
            go_wp2_with (first | (go_at_call 10; refine (digitS _ _ hb8).mono ?_; rw [HDG.out]; rintro e w1 ⟨rfl, hw⟩; subst w1))
            exact ⟨⟨k + 1, by omega, by go_num, HR⟩, by simp [intOf]; omega⟩
          | false =>
            have HNO := hide (rd_nodig (s := s) (by rw [← HDR.out]; unfold digOk; rw [hr.out, hst, hdg]; rfl))
            have HDG := hide hdg
            clear hr hst hdg
            go_wp2_with (first | (go_at_call 10; refine (digitS _ _ hb8).mono ?_; rw [HDG.out]; rintro e w1 ⟨rfl, hw⟩; subst w1))
            refine bodyPost_ret (v := .tuple #[.agg #[.bool false, .slice none 0 0], .bool false]) (by simp [results, Try.results4, go_sem, *]) rfl ?_
            exact ⟨_, by rw [HNO.out.2], by rw [HNO.out.1]; exact new_zero _ _, (HB.out.setCell (p := ⟨w.heap.size, 0, none⟩) (Nat.le_refl _) _).setCell (p := ⟨w.heap.size, 1, none⟩) (Nat.le_refl _) _⟩
        · have HDA : Hid (digAll s.data.toList = true) := hide (by rw [hr.out, dig_end s k (by omega)])
          clear hr
          have hkl : (s.size : Int) ≤ (k : Int) := by omega
          obtain ⟨m, hm⟩ : ∃ m, valN s.data.toList = m := ⟨_, rfl⟩
          have HM := hide hm
          have hml : (lms (m : Int)).length ≤ 200 := by rw [← hm]; exact lms_short HDA.out (by rw [bsize]; omega)
          have HV : Hid (rdV s = (m : Int)) := hide (by unfold rdV; rw [← HDR.out, HG.out, hm]; rfl)
          clear hm
          go_wp2_with fail
          refine (digitsS s _ HDA.out (by omega)).mono ?_
          rw [HM.out]
          rintro e w2 ⟨v2, rfl, ⟨a2, c2, rfl, ho2⟩, hb2⟩
          have hb2s := hb2.size
          have z0 := z1
          replace k0 := (hb2.cell (p := ⟨w.heap.size, 0, none⟩) z1).trans k0
          replace k1 := (hb2.cell (p := ⟨w.heap.size, 1, none⟩) z1).trans k1
          replace f0 := (hb2.frozen (p := ⟨w.heap.size, 0, none⟩) z1).trans f0
          replace f1 := (hb2.frozen (p := ⟨w.heap.size, 1, none⟩) z1).trans f1
          replace z1 := Nat.lt_of_lt_of_le z1 hb2s
          replace HB := hide (bl_trans HB.out hb2)
          have HS : Hid (BxSt w (w2.alloc (Obj.cells #[Value.bool (sgn (m : Int)), Value.slice a2 (lms (m : Int)).length c2] 24)) w2.heap.size (m : Int) a2 c2) := hide (by
            have hbl := bl_alloc (bl_refl w2) (Obj.cells #[Value.bool (sgn (m : Int)), Value.slice a2 (lms (m : Int)).length c2] 24)
            exact ⟨(hbl.cell (p := ⟨w.heap.size, 0, none⟩) z1).trans k0, (hbl.cell (p := ⟨w.heap.size, 1, none⟩) z1).trans k1, (hbl.frozen (p := ⟨w.heap.size, 0, none⟩) z1).trans f0, (hbl.frozen (p := ⟨w.heap.size, 1, none⟩) z1).trans f1, by go_simp, by go_simp, by go_simp, by go_simp, z1, by simp only [World.size_alloc]; omega, (ho2.below hbl).mono (by omega), bl_trans HB.out hbl⟩)
          clear ho2 hb2 k0 k1 f0 f1 HB
          obtain ⟨k0, k1, f0, f1, x0, x1, g0, g1, zw, zX, own, bel⟩ := HS.out
          have HO := hide own
          have HB := hide bel
          clear own bel
          by_cases hE : s.size ≠ 0
          · have hE' : s.toList.isEmpty = false := by (have := size_nil s; rw [decide_eq_true hE] at this; simpa using this)
            have HNE : Hid (s.data.toList ≠ []) := hide (fun e => hE (by rw [← bsize, e]; rfl))
            go_wp2_with fail
            generalize w2.alloc (Obj.cells #[Value.bool (sgn (m : Int)), Value.slice a2 (lms (m : Int)).length c2] 24) = w3 at *
            clear k0 k1 f0 f1 x0 x1 g0 g1 zw zX HO HB
            refine (okS _ (sgn (m : Int)) (lms (m : Int)) _ ⟨a2, c2, rfl, HS.out.own.seg⟩).mono ?_
            rintro e w6 ⟨rfl, hb6⟩
            rw [ok_fits]
            replace HS := hide (HS.out.below hb6)
            clear hb6
            obtain ⟨k0, k1, f0, f1, x0, x1, g0, g1, zw, zX, own, bel⟩ := HS.out
            have HO := hide own
            have HB := hide bel
            clear own bel
            cases hf : fits (m : Int) with
            | false =>
              have HNO := hide (rd_rej (s := s) (fun _ => by rw [HV.out]; exact hf))
              go_wp2
              refine bodyPost_ret (v := .tuple #[.agg #[.bool false, .slice none 0 0], .bool false]) (by simp [results, Try.results4, go_sem, *]) rfl ?_
              exact ⟨_, by rw [HNO.out.2], by rw [HNO.out.1]; exact new_zero _ _, (HB.out.setCell (p := ⟨w.heap.size, 0, none⟩) (Nat.le_refl _) _).setCell (p := ⟨w.heap.size, 1, none⟩) (Nat.le_refl _) _⟩
            | true =>
              go_wp2_with fail
              refine (txtS _ (m : Int) _ ⟨a2, c2, rfl, HO.out.seg⟩ (fits_len hf)).mono ?_
              rintro e w7 ⟨rfl, hb7⟩
              replace HS := hide (HS.out.below hb7)
              clear hb7 k0 k1 f0 f1 x0 x1 g0 g1 zw zX HO HB
              obtain ⟨k0, k1, f0, f1, x0, x1, g0, g1, zw, zX, own, bel⟩ := HS.out
              have HO := hide own
              have HB := hide bel
              clear own bel
              have HTI := hide (text_iff (s := s) (by rw [← HDR.out]; exact HDA.out) (by rw [← HDR.out]; exact HNE.out))
              rw [HV.out] at HTI
              have HOK := hide (rd_okd (s := s) h4.2 (by rw [← HDR.out]; unfold digOk; rw [HDA.out, decide_eq_true hE]; rfl))
              by_cases ht : (itB (m : Int)).data.toList = s.data.toList
              · have hcmp : ((itB (m : Int)).toList == s.toList) = true := by rw [ByteArray.toList_eq, ByteArray.toList_eq, beq_iff_eq]; exact ht
                have HAC := hide (rd_acc (s := s) (by rw [HOK.out, HTI.out.1 ht]; rfl) (by rw [HV.out]; exact hf))
                rw [HV.out] at HAC
                clear HTI HOK ht
                generalize itB (m : Int) = tx at *
                go_wp2
                refine bodyPost_ret (v := .tuple #[.agg #[.bool (sgn (m : Int)), .slice a2 (lms (m : Int)).length c2], .bool true]) (by simp [results, Try.results4, go_sem, *]) rfl ?_
                exact ⟨_, by rw [HAC.out.2], by rw [HAC.out.1]; exact ⟨a2, c2, rfl, ((HO.out.setCell (p := ⟨w.heap.size, 0, none⟩) (by dsimp only; omega) _).setCell (p := ⟨w.heap.size, 1, none⟩) (by dsimp only; omega) _).mono (by omega)⟩, (HB.out.setCell (p := ⟨w.heap.size, 0, none⟩) (Nat.le_refl _) _).setCell (p := ⟨w.heap.size, 1, none⟩) (Nat.le_refl _) _⟩
              · have hcmp : ((itB (m : Int)).toList == s.toList) = false := by rw [ByteArray.toList_eq, ByteArray.toList_eq, beq_eq_false_iff_ne]; exact ht
                have HNO := hide (rd_rej (s := s) (fun hok => absurd (HTI.out.2 (by rw [HOK.out] at hok; cases hq : rdLead s with | false => rfl | true => rw [hq] at hok; cases hok)) ht))
                clear HTI HOK ht
                generalize itB (m : Int) = tx at *
                go_wp2
                refine bodyPost_ret (v := .tuple #[.agg #[.bool false, .slice none 0 0], .bool false]) (by simp [results, Try.results4, go_sem, *]) rfl ?_
                exact ⟨_, by rw [HNO.out.2], by rw [HNO.out.1]; exact new_zero _ _, (HB.out.setCell (p := ⟨w.heap.size, 0, none⟩) (Nat.le_refl _) _).setCell (p := ⟨w.heap.size, 1, none⟩) (Nat.le_refl _) _⟩
          · omega
  · rw [decide_eq_false (by omega)]
    have HNO : Hid (rdZ s = 0 ∧ rdF s = false) := hide (rd_no (s := s) (by
      unfold rdOk
      by_cases h : s.size ≤ 400
      · have h0 : s.size = 0 := by omega
        have : digOk (rdD s) = false := by
          have := rdD_size s
          unfold digOk; rw [show decide ((rdD s).size ≠ 0) = false from decide_eq_false (by omega), Bool.and_false]
        rw [this]; simp
      · rw [decide_eq_false h]; rfl))
    go_wp2
    refine bodyPost_ret (v := .tuple #[.agg #[.bool false, .slice none 0 0], .bool false]) (by simp [results, Try.results4, go_sem, *]) rfl ?_
    exact ⟨_, by rw [HNO.out.2], by rw [HNO.out.1]; exact new_zero _ _, (HB.out.setCell (p := ⟨w.heap.size, 0, none⟩) (Nat.le_refl _) _).setCell (p := ⟨w.heap.size, 1, none⟩) (Nat.le_refl _) _⟩
end Go.Proofs.Ytgoblagpnioflaa
