/- The walk of l02Times: the product of two lists of limbs, in new memory. -/
import Derived.Test.YtbopgbpnbonkeaaTimes
import Derived.Test.YtbopgbpnbonkeaaSum
import Derived.Test.YtbopgbpnbonkeaaFrom
namespace Go.Proofs.Ytbopgbpnbonkeaa
open Go.RowKit
set_option linter.unusedVariables false

theorem wrap_i {a : Int} (h0 : -9223372036854775808 ≤ a) (h1 : a ≤ 9223372036854775807) : IntKind.i64.wrap a = a := by rw [IntKind.wrap_i64]; omega
theorem wrap_u {a : Int} (h0 : 0 ≤ a) (h1 : a ≤ 18446744073709551615) : IntKind.u64.wrap a = a := by rw [IntKind.wrap_u64]; omega

set_option maxHeartbeats 8000000 in
set_option maxRecDepth 20000 in
theorem timesS (a b : Option Addr) (n m ca cb : Nat) (xs ys : List Nat) (w : World) (ha : Seg w a n ca xs) (hb : Seg w b m cb ys) (hn : n ≤ 500000) (hm : m ≤ 500000) :
    Calls Try.prog 72 #[.slice a n ca, .slice b m cb] w fun e w' => ∃ zs, e = .returned (.slice (some ⟨w.heap.size, 0, none⟩) (n + m) (n + m)) ∧ Own w' w.heap.size (some ⟨w.heap.size, 0, none⟩) (n + m) (n + m) zs ∧ Num.nat zs = Num.nat xs * Num.nat ys ∧ Below w.heap.size w w' := by
  obtain ⟨i0, hi, hz0, hz1, hz2⟩ := info_parts Try.info68
  obtain rfl := ha.1
  obtain rfl := hb.1
  have hca := ha.2.1
  have hcm := ha.2.2.1
  have hcb := hb.2.1
  have hcbm := hb.2.2.1
  have HA := hide ha
  have HBB := hide hb
  clear ha hb
  go_enter Try.func72, Try.ntmps72
  go_wp2_with (at_make; refine wpList_make_full _ rfl _ _ 32 rfl w.heap.size 68 i0 (.int .u32 0) 1 Try.underlying32 hi hz0 hz1 _ _ _ _ (xs.length + ys.length) rfl rfl (by push_cast; rfl) (by push_cast; rfl) (by rw [hz2]; omega) (by unfold maxLen; omega) (Nat.le_refl _) ?_; intro w3 hown hgrow; have HZ3 := hide ((bl_refl w).grown hgrow (Nat.le_refl _) (by simp)); have B3 := hide (own_made2 hown).blk; have q3 := B3.out.lt; clear hown hgrow)
  go_loopw [6, 7, 8, 9] (fun i _ _ _ wr => ∃ (k : Nat) (Y : List Nat), k ≤ xs.length ∧ i = .int .i64 k ∧ Y.length = xs.length + ys.length ∧ Hid (Blk wr w.heap.size Y) ∧ Hid (Num.nat (Y.drop (k + ys.length)) = 0) ∧ Hid (Num.nat Y = Num.nat (xs.take k) * Num.nat ys) ∧ Hid (Below w.heap.size w wr)) (fun i _ _ _ _ => xs.length - (intOf i).toNat)
  case atStart => exact ⟨0, List.replicate (xs.length + ys.length) 0, Nat.zero_le _, rfl, by simp, B3, hide (by rw [List.drop_replicate]; exact Num.nat_replicate _), hide (by rw [Num.nat_replicate]; simp [Num.nat]), HZ3⟩
  case round =>
    obtain ⟨k, Y, hk, rfl, hYl, hB, h0, hN, hZ⟩ := hrel
    by_cases hlt : k < xs.length
    · have hlt' : (k : Int) < (xs.length : Int) := by omega
      have hsm := Num.small_at HA.out.2.2.2.1 hlt
      have HPS := hide (fun zs c hT => prod_step (c := c) (zs := zs) hlt hYl h0.out hN.out hT)
      have HXK : Hid (∀ W, Below w.heap.size w W → ∃ g o, a = some ⟨g, o, none⟩ ∧ W.cell? ⟨g, o + k, none⟩ = some (.int .u32 xs[k])) := hide (fun W hW => by
        obtain ⟨g, o, ha, _, hc⟩ := seg_cell (HA.out.below hW) k hlt
        exact ⟨g, o, ha, hc⟩)
      generalize xs[k] = f at *
      clear h0 hN
      go_wp2_with fail
      go_loopw [7, 8, 9] (fun cv jv _ wi => ∃ (j c : Nat) (zs : List Nat), j ≤ ys.length ∧ jv = .int .i64 j ∧ cv = .int .u64 c ∧ c < 4294967296 ∧ Hid (TSo f (Y.drop k) ys zs j c) ∧ Hid (Blk wi w.heap.size (Y.take k ++ zs ++ Y.drop (k + j))) ∧ Hid (Below w.heap.size w wi)) (fun _ jv _ _ => ys.length - (intOf jv).toNat)
      case atStart => exact ⟨0, 0, [], Nat.zero_le _, rfl, rfl, by omega, hide ⟨rfl, (fun x hx => by cases hx), by omega, by simp [Num.nat]⟩, hide (by have := hB.out; simpa using this), hZ⟩
      case round =>
        obtain ⟨j, c, zs, hj, rfl, rfl, hc, hS, hbk, hZi⟩ := hrel
        have hzl := hS.out.1
        have hfz := hbk.out.frozen (k + j)
        have hls : Y[k + j]'(by omega) < 4294967296 := Num.small_at hB.out.2 (by omega)
        have hcl := hbk.out.cell (k + j) (by rw [mid_len hzl (by omega)]; omega)
        rw [mid_at hzl (by omega)] at hcl
        have HLD : Hid ((Y.drop k).getD j 0 = Y[k + j]'(by omega)) := hide (drop_getD (by omega))
        have HST := hide (fun x hx => hbk.out.set (k + j) x hx)
        have HMS := hide (fun x => mid_set (x := x) hzl (show k + j < Y.length by omega))
        generalize Y[k + j]'_ = l at *
        have hw1 := wrap_i (a := (k : Int) + (j : Int)) (by omega) (by omega)
        have hidx : (k : Int) + (j : Int) < (xs.length : Int) + (ys.length : Int) := by omega
        by_cases hjt : j < ys.length
        · have hjt' : (j : Int) < (ys.length : Int) := by omega
          obtain ⟨ga, oa, rfl, hca2⟩ := HXK.out _ hZi.out
          obtain ⟨gb, ob, rfl, hgb, hcb2⟩ := seg_cell (HBB.out.below hZi.out) j hjt
          have hps := Num.small_at HBB.out.2.2.2.1 hjt
          have HPD : Hid (ys.getD j 0 = ys[j]) := hide (by simp [hjt])
          generalize ys[j] = p at *
          have hMb := prod_le hsm hps
          have hM0 : (f : Int) * (p : Int) = ((f * p : Nat) : Int) := (Int.natCast_mul f p).symm
          have HTS := hide (fun hb => tso_step (t := f * p + l + c) hS.out HLD.out HPD.out rfl hb)
          clear hS
          generalize f * p = M at *
          have hw2 := wrap_u (a := (M : Int)) (by omega) (by omega)
          have hw3 := wrap_u (a := (M : Int) + (l : Int)) (by omega) (by omega)
          have hw4 := wrap_u (a := (M : Int) + (l : Int) + (c : Int)) (by omega) (by omega)
          have e32 := and32 ((M : Int) + (l : Int) + (c : Int)) (by omega) (by omega)
          go_wp2_with fail
          go_quiet (fail)
          go_wp2
          refine ⟨⟨j + 1, (M + l + c) / 4294967296, zs ++ [(M + l + c) % 4294967296], by omega, by go_num, by go_num, by omega, hide (HTS.out (by omega)), ?_⟩, by simp [intOf]; omega⟩
          have hs := (hbk.out.below (below_drewN (bl_refl wr) nq)).set (k + j) ((M + l + c) % 4294967296) (by omega)
          rw [HMS.out] at hs
          have ev : ((M : Int) + (l : Int) + (c : Int)) % 4294967296 = (((M + l + c) % 4294967296 : Nat) : Int) := by omega
          rw [ev]
          exact ⟨hide hs.1, hide ((below_drewN hZi.out nq).setCell (p := ⟨w.heap.size, k + j, none⟩) (Nat.le_refl _) _)⟩
        · obtain rfl : j = ys.length := by omega
          have HN5 := hide (HPS.out zs c hS.out)
          have hs := HST.out c hc
          rw [HMS.out] at hs
          have HS5 := hide hs.1
          clear hs
          go_wp2
          refine ⟨⟨k + 1, _, by omega, by go_num, HN5.out.1, HS5, hide HN5.out.2.1, hide HN5.out.2.2, hide (hZi.out.setCell (p := ⟨w.heap.size, k + ys.length, none⟩) (Nat.le_refl _) _)⟩, by simp [intOf]; omega⟩
    · obtain rfl : k = xs.length := by omega
      have HO := hide (hB.out.own (base := w.heap.size) (Nat.le_refl _) (by omega))
      rw [hYl] at HO
      go_wp2
      go_ret
      refine ⟨Y, rfl, HO.out, ?_, hZ.out⟩
      rw [hN.out, List.take_of_length_le (Nat.le_refl _)]
end Go.Proofs.Ytbopgbpnbonkeaa
