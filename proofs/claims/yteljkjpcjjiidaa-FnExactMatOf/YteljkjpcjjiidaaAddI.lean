/- The walk of addOrTake: a part of a block of limbs turns into the sum, or the difference; no other block turns. -/
import Derived.Test.YteljkjpcjjiidaaBlk
import Derived.Test.YteljkjpcjjiidaaCmp
namespace Go.Proofs.Yteljkjpcjjiidaa
open Go.RowKit
set_option linter.unusedVariables false

theorem xor0 (p : Int) (h0 : 0 ≤ p) (h1 : p < 4294967296) : bits .xor .u32 0 p = p := by
  obtain ⟨p, rfl⟩ := Int.eq_ofNat_of_zero_le h0
  have key : (BitVec.ofInt 32 (0 : Int) ^^^ BitVec.ofInt 32 (p : Int)).toNat = p := by
    rw [BitVec.toNat_xor, BitVec.toNat_ofInt, BitVec.toNat_ofInt]
    have e2 : ((p : Int) % ((2 ^ 32 : Nat) : Int)).toNat = p := by omega
    rw [e2]; simp
  show IntKind.u32.wrap ((BitVec.ofInt 32 (0 : Int) ^^^ BitVec.ofInt 32 (p : Int)).toNat : Nat) = _
  rw [key, IntKind.wrap_u32]; omega
theorem xor1 (p : Int) (h0 : 0 ≤ p) (h1 : p < 4294967296) : bits .xor .u32 4294967295 p = 4294967295 - p := by
  obtain ⟨p, rfl⟩ := Int.eq_ofNat_of_zero_le h0
  have e1 : BitVec.ofInt 32 (4294967295 : Int) = BitVec.allOnes 32 := by decide
  have key : (BitVec.ofInt 32 (4294967295 : Int) ^^^ BitVec.ofInt 32 (p : Int)).toNat = 4294967295 - p := by
    rw [e1, BitVec.allOnes_xor, BitVec.toNat_not, BitVec.toNat_ofInt]
    have e2 : ((p : Int) % ((2 ^ 32 : Nat) : Int)).toNat = p := by omega
    rw [e2]
  show IntKind.u32.wrap ((BitVec.ofInt 32 (4294967295 : Int) ^^^ BitVec.ofInt 32 (p : Int)).toNat : Nat) = _
  rw [key, IntKind.wrap_u32]; omega
theorem xor_one (c : Nat) (h : c ≤ 1) : bits .xor .u32 (c : Int) 1 = 1 - (c : Int) := by
  obtain rfl | rfl : c = 0 ∨ c = 1 := by omega
  · decide
  · decide
theorem xor_nil (c : Nat) (h : c ≤ 1) : bits .xor .u32 (c : Int) 0 = (c : Int) := by
  obtain rfl | rfl : c = 0 ∨ c = 1 := by omega
  · decide
  · decide
/-- the limb that is added -/
def oth (t : Bool) (p : Nat) : Nat := if t then 4294967295 - p else p
theorem oth_false (p : Nat) : oth false p = p := rfl
theorem oth_true (p : Nat) : oth true p = 4294967295 - p := rfl
theorem oth_lt {t : Bool} {p : Nat} (h : p < 4294967296) : oth t p < 4294967296 := by unfold oth; cases t <;> simp <;> omega
/-- the number so far -/
def Sofar (t : Bool) (seg ps zs : List Nat) (k c : Nat) : Prop :=
  zs.length = k ∧ Num.Small zs ∧ c ≤ 1 ∧ (if t then Num.nat zs + Num.nat (ps.take k) + 4294967296 ^ k * c = Num.nat (seg.take k) + 4294967296 ^ k else Num.nat zs + 4294967296 ^ k * c = Num.nat (seg.take k) + Num.nat (ps.take k))
theorem nat_take_getD (xs : List Nat) (n : Nat) : Num.nat (xs.take (n + 1)) = Num.nat (xs.take n) + 4294967296 ^ n * xs.getD n 0 := by
  by_cases h : n < xs.length
  · rw [Num.nat_take_succ xs n h]; simp [h]
  · rw [List.take_of_length_le (by omega), List.take_of_length_le (by omega)]
    have : xs.getD n 0 = 0 := by simp [List.getD, List.getElem?_eq_none (Nat.le_of_not_lt h)]
    rw [this]; omega
theorem sofar_step {t : Bool} {seg ps zs : List Nat} {k c l p x c' : Nat} (h : Sofar t seg ps zs k c) (hl : seg.getD k 0 = l) (hp : ps.getD k 0 = p) (hpl : p < 4294967296) (hx : x < 4294967296) (hc' : c' ≤ 1) (he : x + 4294967296 * c' = l + oth t p + c) :
    Sofar t seg ps (zs ++ [x]) (k + 1) c' := by
  obtain ⟨h1, h2, h3, h4⟩ := h
  refine ⟨by simp [h1], Num.small_append h2 (by intro y hy; simp at hy; omega), hc', ?_⟩
  rw [Num.nat_append, nat_take_getD seg k, nat_take_getD ps k, hl, hp, h1, Nat.pow_succ]
  have e : 4294967296 ^ k * x + 4294967296 ^ k * 4294967296 * c' = 4294967296 ^ k * l + 4294967296 ^ k * oth t p + 4294967296 ^ k * c := by
    have := congrArg (4294967296 ^ k * ·) he
    simp only [Nat.mul_add] at this
    rw [Nat.mul_assoc]; exact this
  have e0 : Num.nat [x] = x := by simp [Num.nat]
  rw [e0]
  cases t with
  | false =>
    rw [if_neg (by simp)] at h4 ⊢
    have eo : oth false p = p := rfl
    rw [eo] at e
    omega
  | true =>
    rw [if_pos rfl] at h4 ⊢
    have eo : 4294967296 ^ k * oth true p + 4294967296 ^ k * p = 4294967296 ^ k * 4294967295 := by
      rw [← Nat.mul_add]; congr 1; simp [oth]; omega
    have e5 : 4294967296 ^ k * 4294967296 = 4294967296 ^ k * 4294967295 + 4294967296 ^ k := by omega
    omega
theorem mid_at {ys zs : List Nat} {o k : Nat} (hz : zs.length = k) (ho : o + k < ys.length) (h : o + k < (ys.take o ++ zs ++ ys.drop (o + k)).length) : (ys.take o ++ zs ++ ys.drop (o + k))[o + k] = ys[o + k] := by
  have hl : (ys.take o ++ zs).length = o + k := by simp; omega
  rw [List.getElem_append_right (by omega)]
  simp [hl]
theorem mid_len {ys zs : List Nat} {o k : Nat} (hz : zs.length = k) (ho : o + k ≤ ys.length) : (ys.take o ++ zs ++ ys.drop (o + k)).length = ys.length := by
  simp; omega
theorem mid_set {ys zs : List Nat} {o k x : Nat} (hz : zs.length = k) (ho : o + k < ys.length) : (ys.take o ++ zs ++ ys.drop (o + k)).set (o + k) x = ys.take o ++ (zs ++ [x]) ++ ys.drop (o + (k + 1)) := by
  have hl : (ys.take o ++ zs).length = o + k := by simp; omega
  rw [List.set_append_right _ _ (by omega), hl, Nat.sub_self, List.drop_eq_getElem_cons ho, List.set_cons_zero]
  simp [Nat.add_assoc]
theorem seg_getD {ys : List Nat} {o n k : Nat} (hk : k < n) (ho : o + k < ys.length) : ((ys.drop o).take n).getD k 0 = ys[o + k] := by
  simp [List.getD, hk, List.getElem?_drop, ho]

theorem add_end {t : Bool} {g o n k c l p x c' : Nat} {ys ps zs : List Nat} {w wr : World} {v : Int} (hS : Sofar t ((ys.drop o).take n) ps zs k c) (hbk : Blk wr g (ys.take o ++ zs ++ ys.drop (o + k))) (hg : w.grownBy wr (some g)) (hl : ((ys.drop o).take n).getD k 0 = l) (hp : ps.getD k 0 = p) (hpl : p < 4294967296) (ho : o + k < ys.length) (hv : v = (x : Int)) (hx : x < 4294967296) (hc : c' ≤ 1) (he : x + 4294967296 * c' = l + oth t p + c) :
    Hid (Sofar t ((ys.drop o).take n) ps (zs ++ [x]) (k + 1) c') ∧ Hid (Blk (wr.setCell ⟨g, o + k, none⟩ (.int .u32 v)) g (ys.take o ++ (zs ++ [x]) ++ ys.drop (o + (k + 1)))) ∧ Hid (w.grownBy (wr.setCell ⟨g, o + k, none⟩ (.int .u32 v)) (some g)) := by
  subst hv
  have h := hbk.set (o + k) x hx
  rw [mid_set hS.1 ho] at h
  exact ⟨hide (sofar_step hS hl hp hpl hx hc he), hide h.1, hide (grown_trans hg h.2)⟩

set_option maxHeartbeats 4000000 in
set_option maxRecDepth 20000 in
theorem addI (t : Bool) (g o n cap : Nat) (ys : List Nat) (b : Option Addr) (m cb : Nat) (ps : List Nat) (w : World) (hB : Blk w g ys) (ho : o + n ≤ ys.length) (hn : n ≤ cap) (hcm : cap ≤ 9223372036854775807) (hP : Seg w b m cb ps) (hne : 0 < m → ∀ gb ob s, b = some ⟨gb, ob, s⟩ → gb ≠ g) :
    Calls Try.prog 101 #[.slice (some ⟨g, o, none⟩) n cap, .slice b m cb, .bool t] w fun e w' => ∃ (zs : List Nat) (c : Nat), Sofar t ((ys.drop o).take n) ps zs n c ∧ e = .returned (.int .u32 (if t then 1 - (c : Int) else c)) ∧ Blk w' g (ys.take o ++ zs ++ ys.drop (o + n)) ∧ w.grownBy w' (some g) := by
  obtain rfl := hP.1
  have hb1 := hP.2.1
  have hb2 := hP.2.2.1
  have HP := hide hP
  have HB := hide hB
  have HNE := hide hne
  clear hP hB hne
  cases t with
  | false =>
    go_enter Try.func101, Try.ntmps101
    go_wp2
    go_loopw [9, 10, 11, 12, 13, 20] (fun cv _ _ _ _ i wr => ∃ (k c : Nat) (zs : List Nat), k ≤ n ∧ i = .int .i64 k ∧ cv = .int .u32 c ∧ c ≤ 1 ∧ Hid (Sofar false ((ys.drop o).take n) ps zs k c) ∧ Hid (Blk wr g (ys.take o ++ zs ++ ys.drop (o + k))) ∧ Hid (w.grownBy wr (some g))) (fun _ _ _ _ _ i _ => n - (intOf i).toNat)
    case atStart => exact ⟨0, 0, [], Nat.zero_le _, rfl, rfl, by omega, hide ⟨rfl, (fun x hx => by cases hx), by omega, by simp [Num.nat]⟩, hide (by have := HB.out; simpa using this), hide ⟨rfl, rfl, rfl, Nat.le_refl _, fun _ _ _ => rfl⟩⟩
    case round =>
      obtain ⟨k, c, zs, hk, rfl, rfl, hc, hS, hbk, hg⟩ := hrel
      by_cases hlt : k < n
      · have hlt' : (k : Int) < (n : Int) := by omega
        have hzl := hS.out.1
        have hcl := hbk.out.cell (o + k) (by rw [mid_len hzl (by omega)]; omega)
        rw [mid_at hzl (by omega)] at hcl
        have hfz := hbk.out.frozen (o + k)
        have hls : ys[o + k] < 4294967296 := Num.small_at HB.out.2 (by omega)
        have HLD := hide (seg_getD (ys := ys) (o := o) hlt (by omega))
        generalize ys[o + k] = l at *
        by_cases hkm : k < ps.length
        · have hkm' : (k : Int) < (ps.length : Int) := by omega
          obtain ⟨g', o', rfl, hg', hc2⟩ := seg_cell (HP.out.grown hg.out (fun gb ob s e => by have := HNE.out (by omega) gb ob s e; simp; omega)) k hkm
          have hps := Num.small_at HP.out.2.2.2.1 hkm
          have HPD : Hid (ps.getD k 0 = ps[k]) := hide (by simp [hkm])
          generalize ps[k] = p at *
          have hx0 := xor0 p (by omega) (by omega)
          go_wp2
          all_goals first
            | exact ⟨⟨k + 1, 0, zs ++ [(l + oth false p + c) % 4294967296], by omega, by go_num, rfl, by omega, add_end (p := p) hS.out hbk.out hg.out HLD.out HPD.out (by omega) (by omega) (by rw [oth_false]; omega) (by omega) (by omega) (by rw [oth_false]; omega)⟩, by simp [intOf]; omega⟩
            | exact ⟨⟨k + 1, 1, zs ++ [(l + oth false p + c) % 4294967296], by omega, by go_num, rfl, by omega, add_end (p := p) hS.out hbk.out hg.out HLD.out HPD.out (by omega) (by omega) (by rw [oth_false]; omega) (by omega) (by omega) (by rw [oth_false]; omega)⟩, by simp [intOf]; omega⟩
        · have HPD : Hid (ps.getD k 0 = 0) := hide (by simp [List.getD, List.getElem?_eq_none (Nat.le_of_not_lt hkm)])
          go_wp2
          all_goals first
            | exact ⟨⟨k + 1, 0, zs ++ [(l + oth false 0 + c) % 4294967296], by omega, by go_num, rfl, by omega, add_end (p := 0) hS.out hbk.out hg.out HLD.out HPD.out (by omega) (by omega) (by rw [oth_false]; omega) (by omega) (by omega) (by rw [oth_false]; omega)⟩, by simp [intOf]; omega⟩
            | exact ⟨⟨k + 1, 1, zs ++ [(l + oth false 0 + c) % 4294967296], by omega, by go_num, rfl, by omega, add_end (p := 0) hS.out hbk.out hg.out HLD.out HPD.out (by omega) (by omega) (by rw [oth_false]; omega) (by omega) (by omega) (by rw [oth_false]; omega)⟩, by simp [intOf]; omega⟩
      · obtain rfl : k = n := by omega
        go_wp2
        go_ret
        exact ⟨zs, c, hS.out, ret_int (xor_nil c hc), (by have := hbk.out; rwa [List.append_assoc] at this), hg.out⟩
  | true =>
    have hmax : bits BinOp.xor IntKind.u32 IntKind.u32.max 0 = 4294967295 := by decide
    have HM := hide hmax
    clear hmax
    go_enter Try.func101, Try.ntmps101
    go_wp2
    obtain ⟨T, hT⟩ : ∃ T : Int, bits BinOp.xor IntKind.u32 IntKind.u32.max 0 = T := ⟨_, rfl⟩
    have HT : Hid (T = 4294967295) := hide (hT.symm.trans HM.out)
    rw [hT]
    clear hT HM
    go_loopw [9, 10, 11, 12, 13, 20] (fun cv _ _ _ _ i wr => ∃ (k c : Nat) (zs : List Nat), k ≤ n ∧ i = .int .i64 k ∧ cv = .int .u32 c ∧ c ≤ 1 ∧ Hid (Sofar true ((ys.drop o).take n) ps zs k c) ∧ Hid (Blk wr g (ys.take o ++ zs ++ ys.drop (o + k))) ∧ Hid (w.grownBy wr (some g))) (fun _ _ _ _ _ i _ => n - (intOf i).toNat)
    case atStart => exact ⟨0, 1, [], Nat.zero_le _, rfl, rfl, by omega, hide ⟨rfl, (fun x hx => by cases hx), by omega, by simp [Num.nat]⟩, hide (by have := HB.out; simpa using this), hide ⟨rfl, rfl, rfl, Nat.le_refl _, fun _ _ _ => rfl⟩⟩
    case round =>
      obtain ⟨k, c, zs, hk, rfl, rfl, hc, hS, hbk, hg⟩ := hrel
      by_cases hlt : k < n
      · have hlt' : (k : Int) < (n : Int) := by omega
        have hzl := hS.out.1
        have hcl := hbk.out.cell (o + k) (by rw [mid_len hzl (by omega)]; omega)
        rw [mid_at hzl (by omega)] at hcl
        have hfz := hbk.out.frozen (o + k)
        have hls : ys[o + k] < 4294967296 := Num.small_at HB.out.2 (by omega)
        have HLD := hide (seg_getD (ys := ys) (o := o) hlt (by omega))
        generalize ys[o + k] = l at *
        by_cases hkm : k < ps.length
        · have hkm' : (k : Int) < (ps.length : Int) := by omega
          obtain ⟨g', o', rfl, hg', hc2⟩ := seg_cell (HP.out.grown hg.out (fun gb ob s e => by have := HNE.out (by omega) gb ob s e; simp; omega)) k hkm
          have hps := Num.small_at HP.out.2.2.2.1 hkm
          have HPD : Hid (ps.getD k 0 = ps[k]) := hide (by simp [hkm])
          generalize ps[k] = p at *
          have hx0 := xor1 p (by omega) (by omega)
          rw [← HT.out] at hx0
          have hT0 : 0 ≤ T := by have := HT.out; omega
          have hT1 : T ≤ 4294967295 := by have := HT.out; omega
          go_wp2
          all_goals have hTT := HT.out
          all_goals first
            | exact ⟨⟨k + 1, 0, zs ++ [(l + oth true p + c) % 4294967296], by omega, by go_num, rfl, by omega, add_end (p := p) hS.out hbk.out hg.out HLD.out HPD.out (by omega) (by omega) (by rw [oth_true]; omega) (by omega) (by omega) (by rw [oth_true]; omega)⟩, by simp [intOf]; omega⟩
            | exact ⟨⟨k + 1, 1, zs ++ [(l + oth true p + c) % 4294967296], by omega, by go_num, rfl, by omega, add_end (p := p) hS.out hbk.out hg.out HLD.out HPD.out (by omega) (by omega) (by rw [oth_true]; omega) (by omega) (by omega) (by rw [oth_true]; omega)⟩, by simp [intOf]; omega⟩
        · have HPD : Hid (ps.getD k 0 = 0) := hide (by simp [List.getD, List.getElem?_eq_none (Nat.le_of_not_lt hkm)])
          have hT0 : 0 ≤ T := by have := HT.out; omega
          have hT1 : T ≤ 4294967295 := by have := HT.out; omega
          go_wp2
          all_goals have hTT := HT.out
          all_goals first
            | exact ⟨⟨k + 1, 0, zs ++ [(l + oth true 0 + c) % 4294967296], by omega, by go_num, rfl, by omega, add_end (p := 0) hS.out hbk.out hg.out HLD.out HPD.out (by omega) (by omega) (by rw [oth_true]; omega) (by omega) (by omega) (by rw [oth_true]; omega)⟩, by simp [intOf]; omega⟩
            | exact ⟨⟨k + 1, 1, zs ++ [(l + oth true 0 + c) % 4294967296], by omega, by go_num, rfl, by omega, add_end (p := 0) hS.out hbk.out hg.out HLD.out HPD.out (by omega) (by omega) (by rw [oth_true]; omega) (by omega) (by omega) (by rw [oth_true]; omega)⟩, by simp [intOf]; omega⟩
      · obtain rfl : k = n := by omega
        go_wp2
        go_ret
        exact ⟨zs, c, hS.out, ret_int (xor_one c hc), (by have := hbk.out; rwa [List.append_assoc] at this), hg.out⟩
end Go.Proofs.Yteljkjpcjjiidaa
