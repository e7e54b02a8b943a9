/- The walk of addTimes: a part of a block of limbs turns into its sum with a list times a limb; no other block turns. -/
import Derived.Test.YtbopgbpnbonkeaaAddI
namespace Go.Proofs.Ytbopgbpnbonkeaa
open Go.RowKit
set_option linter.unusedVariables false

/-- the number so far -/
def TSo (f : Nat) (seg ps zs : List Nat) (k c : Nat) : Prop :=
  zs.length = k ∧ Num.Small zs ∧ c < 4294967296 ∧ Num.nat zs + 4294967296 ^ k * c = Num.nat (seg.take k) + f * Num.nat (ps.take k)
theorem tso_step {f : Nat} {seg ps zs : List Nat} {k c l p t : Nat} (h : TSo f seg ps zs k c) (hl : seg.getD k 0 = l) (hp : ps.getD k 0 = p) (ht : t = f * p + l + c) (hb : t / 4294967296 < 4294967296) :
    TSo f seg ps (zs ++ [t % 4294967296]) (k + 1) (t / 4294967296) := by
  obtain ⟨h1, h2, h3, h4⟩ := h
  refine ⟨by simp [h1], Num.small_append h2 (by intro y hy; simp at hy; subst hy; exact Nat.mod_lt _ (by decide)), hb, ?_⟩
  rw [Num.nat_append, nat_take_getD seg k, nat_take_getD ps k, hl, hp, h1, Nat.pow_succ]
  have e0 : Num.nat [t % 4294967296] = t % 4294967296 := by simp [Num.nat]
  have e1 : 4294967296 ^ k * (t % 4294967296) + 4294967296 ^ k * 4294967296 * (t / 4294967296) = 4294967296 ^ k * t := by
    rw [Nat.mul_assoc, ← Nat.mul_add, Nat.mod_add_div]
  rw [e0, Nat.add_assoc, e1, ht, Nat.mul_add, Nat.mul_add, Nat.mul_add, ← Nat.mul_assoc f, Nat.mul_comm f (4294967296 ^ k), Nat.mul_assoc (4294967296 ^ k) f p]
  generalize 4294967296 ^ k * (f * p) = A at *
  generalize 4294967296 ^ k * l = B at *
  generalize 4294967296 ^ k * c = C at *
  generalize f * Num.nat (ps.take k) = D at *
  omega
theorem take_mid {Y zs : List Nat} {i m c : Nat} (hz : zs.length = m) (hi : i + m + 1 ≤ Y.length) : (Y.take i ++ (zs ++ [c]) ++ Y.drop (i + (m + 1))).length = Y.length := by
  simp; omega
theorem prod_step {xs bs Y zs : List Nat} {i c : Nat} (hi : i < xs.length) (hY : Y.length = xs.length + bs.length) (h0 : Num.nat (Y.drop (i + bs.length)) = 0) (hn : Num.nat Y = Num.nat (xs.take i) * Num.nat bs) (hT : TSo (xs[i]) (Y.drop i) bs zs bs.length c) :
    (Y.take i ++ (zs ++ [c]) ++ Y.drop (i + (bs.length + 1))).length = xs.length + bs.length ∧ Num.nat ((Y.take i ++ (zs ++ [c]) ++ Y.drop (i + (bs.length + 1))).drop (i + 1 + bs.length)) = 0 ∧
      Num.nat (Y.take i ++ (zs ++ [c]) ++ Y.drop (i + (bs.length + 1))) = Num.nat (xs.take (i + 1)) * Num.nat bs := by
  obtain ⟨h1, h2, h3, h4⟩ := hT
  have hlen := take_mid (c := c) (Y := Y) (i := i) h1 (by omega)
  have hd := Num.nat_drop Y (i + bs.length) (by omega)
  rw [h0] at hd
  have hd1 : Num.nat (Y.drop (i + bs.length + 1)) = 0 := by omega
  have hpre : (Y.take i ++ (zs ++ [c])).length = i + 1 + bs.length := by simp; omega
  have hdrop : (Y.take i ++ (zs ++ [c]) ++ Y.drop (i + (bs.length + 1))).drop (i + 1 + bs.length) = Y.drop (i + (bs.length + 1)) := by
    rw [List.drop_append_of_le_length (by omega), List.drop_eq_nil_of_le (by omega), List.nil_append]
  refine ⟨hlen.trans hY, ?_, ?_⟩
  · rw [hdrop]; exact hd1
  · have e1 : Num.nat (Y.take i ++ (zs ++ [c]) ++ Y.drop (i + (bs.length + 1))) = Num.nat (Y.take i ++ (zs ++ [c])) := by
      rw [Num.nat_append, show Num.nat (Y.drop (i + (bs.length + 1))) = 0 from hd1]; omega
    have e2 : Num.nat (Y.take i ++ (zs ++ [c])) = Num.nat (Y.take i) + 4294967296 ^ i * (Num.nat zs + 4294967296 ^ bs.length * c) := by
      rw [Num.nat_append, Num.nat_append, h1, List.length_take, Nat.min_eq_left (by omega), show Num.nat [c] = c from by simp [Num.nat]]
    have e3 : Num.nat Y = Num.nat (Y.take i) + 4294967296 ^ i * Num.nat ((Y.drop i).take bs.length) := by
      rw [Num.nat_take_drop Y i (by omega), Num.nat_take_drop (Y.drop i) bs.length (by simp; omega), List.drop_drop, h0]
      rfl
    rw [List.take_of_length_le (Nat.le_refl _)] at h4
    rw [e1, e2, h4, Nat.mul_add, ← Nat.add_assoc, ← e3, hn, Num.nat_take_succ xs i hi, Nat.add_mul, Nat.mul_assoc]
theorem drop_getD {ys : List Nat} {o k : Nat} (h : o + k < ys.length) : (ys.drop o).getD k 0 = ys[o + k] := by
  simp [List.getD, List.getElem?_drop, h]
theorem prod_le {a b : Nat} (ha : a < 4294967296) (hb : b < 4294967296) : a * b ≤ 18446744065119617025 := by
  have := Nat.mul_le_mul (show a ≤ 4294967295 by omega) (show b ≤ 4294967295 by omega)
  exact Nat.le_trans this (by decide)

set_option maxHeartbeats 4000000 in
set_option maxRecDepth 20000 in
theorem timesI (f g o n cap : Nat) (ys : List Nat) (b : Option Addr) (m cb : Nat) (ps : List Nat) (w : World) (hf : f < 4294967296) (hB : Blk w g ys) (ho : o + n ≤ ys.length) (hn : n ≤ cap) (hcm : cap ≤ 9223372036854775807) (hmn : m < n) (hP : Seg w b m cb ps) (hne : 0 < m → ∀ gb ob s, b = some ⟨gb, ob, s⟩ → gb ≠ g) :
    Calls Try.prog 95 #[.slice (some ⟨g, o, none⟩) n cap, .slice b m cb, .int .u32 f] w fun e w' => ∃ (zs : List Nat) (c : Nat), TSo f (ys.drop o) ps zs m c ∧ e = .returned (.tuple #[]) ∧ Blk w' g (ys.take o ++ (zs ++ [c]) ++ ys.drop (o + (m + 1))) ∧ w.grownBy w' (some g) := by
  obtain rfl := hP.1
  have hb1 := hP.2.1
  have hb2 := hP.2.2.1
  have HP := hide hP
  have HB := hide hB
  have HNE := hide hne
  clear hP hB hne
  go_enter Try.func95, Try.ntmps95
  go_wp2
  go_loopw [6, 7, 8, 11] (fun cv _ _ i wr => ∃ (k c : Nat) (zs : List Nat), k ≤ ps.length ∧ i = .int .i64 k ∧ cv = .int .u64 c ∧ c < 4294967296 ∧ Hid (TSo f (ys.drop o) ps zs k c) ∧ Hid (Blk wr g (ys.take o ++ zs ++ ys.drop (o + k))) ∧ Hid (w.grownBy wr (some g))) (fun _ _ _ i _ => ps.length - (intOf i).toNat)
  case atStart => exact ⟨0, 0, [], Nat.zero_le _, rfl, rfl, by omega, hide ⟨rfl, (fun x hx => by cases hx), by omega, by simp [Num.nat]⟩, hide (by have := HB.out; simpa using this), hide ⟨rfl, rfl, rfl, Nat.le_refl _, fun _ _ _ => rfl⟩⟩
  case round =>
    obtain ⟨k, c, zs, hk, rfl, rfl, hc, hS, hbk, hg⟩ := hrel
    have hzl := hS.out.1
    have hfz := hbk.out.frozen (o + k)
    have hls : ys[o + k]'(by omega) < 4294967296 := Num.small_at HB.out.2 (by omega)
    have hcl := hbk.out.cell (o + k) (by rw [mid_len hzl (by omega)]; omega)
    rw [mid_at hzl (by omega)] at hcl
    have HLD : Hid ((ys.drop o).getD k 0 = ys[o + k]'(by omega)) := hide (drop_getD (by omega))
    have HST := hide (fun x hx => hbk.out.set (o + k) x hx)
    have HMS := hide (fun x => mid_set (x := x) hzl (show o + k < ys.length by omega))
    generalize ys[o + k]'_ = l at *
    by_cases hlt : k < ps.length
    · have hlt' : (k : Int) < (ps.length : Int) := by omega
      have hkn : (k : Int) < (n : Int) := by omega
      obtain ⟨g', o', rfl, hg', hc2⟩ := seg_cell (HP.out.grown hg.out (fun gb ob s e => by have := HNE.out (by omega) gb ob s e; simp; omega)) k hlt
      have hps := Num.small_at HP.out.2.2.2.1 hlt
      have HPD : Hid (ps.getD k 0 = ps[k]) := hide (by simp [hlt])
      generalize ps[k] = p at *
      have hMb := prod_le hf hps
      have hM0 : (f : Int) * (p : Int) = ((f * p : Nat) : Int) := (Int.natCast_mul f p).symm
      have HTS := hide (fun hb => tso_step (t := f * p + l + c) hS.out HLD.out HPD.out rfl hb)
      clear hS
      generalize f * p = M at *
      go_wp2
      refine ⟨⟨k + 1, (M + l + c) / 4294967296, zs ++ [(M + l + c) % 4294967296], by omega, by go_num, by go_num, by omega, hide (HTS.out (by omega)), ?_⟩, by simp [intOf]; omega⟩
      have hs := HST.out ((M + l + c) % 4294967296) (by omega)
      rw [HMS.out] at hs
      have ev : ((c : Int) + ((M : Int) + (l : Int))) % 4294967296 = (((M + l + c) % 4294967296 : Nat) : Int) := by omega
      rw [ev]
      exact ⟨hide hs.1, hide (grown_trans hg.out hs.2)⟩
    · obtain rfl : k = ps.length := by omega
      have hkn : (ps.length : Int) < (n : Int) := by omega
      go_wp2
      go_end0
      have hs := HST.out c hc
      rw [HMS.out] at hs
      exact ⟨zs, c, hS.out, rfl, hs.1, grown_trans hg.out hs.2⟩
end Go.Proofs.Ytbopgbpnbonkeaa
