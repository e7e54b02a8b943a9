/- The walk of the draw of a text of n bytes: it ends, whatever the code is, for the draws' numbers come to one behind which a byte is written. -/
import Derived.Test.YthjglbimkfajlaaTell
import Derived.Test.YthjglbimkfajlaaMarks
import Derived.Deep.LoopGhost
import Derived.Laws.IdiomStrings
import Derived.Maps.AppendAt
namespace Go.Proofs.Ythjglbimkfajlaa
open Go.RowKit
set_option linter.unusedVariables false

theorem Try.info5 : (Try.prog.info? 5).map (fun i => (i.zero, i.size, i.bytes)) = some (some (.int .u8 0), 1, 1) := by kernel_rfl

def cellsB (bs : List UInt8) : List Value := bs.map fun b => Value.int .u8 (b.toNat : Int)
theorem cellsB_app (a b : List UInt8) : cellsB (a ++ b) = cellsB a ++ cellsB b := by simp [cellsB]
/-- what is still to do: bytes to write, bytes of the code to read, numbers to pass -/
def togo (K len p r t : Nat) : Nat := p * ((len + 1) * K) + (r * K + t)
theorem togo_p {K len p r t p' r' t' : Nat} (h : p' < p) (hr : r' ≤ len) (ht : t' < K) : togo K len p' r' t' < togo K len p r t := by
  unfold togo
  have h1 : (p' + 1) * ((len + 1) * K) ≤ p * ((len + 1) * K) := Nat.mul_le_mul_right _ h
  have h2 : r' * K ≤ len * K := Nat.mul_le_mul_right _ hr
  have h3 : (p' + 1) * ((len + 1) * K) = p' * ((len + 1) * K) + (len + 1) * K := Nat.succ_mul _ _
  have h4 : (len + 1) * K = len * K + K := Nat.succ_mul _ _
  omega
theorem togo_r {K len p r t p' r' t' : Nat} (h : p' ≤ p) (hr : r' < r) (ht : t' < K) : togo K len p' r' t' < togo K len p r t := by
  unfold togo
  have h1 : p' * ((len + 1) * K) ≤ p * ((len + 1) * K) := Nat.mul_le_mul_right _ h
  have h2 : (r' + 1) * K ≤ r * K := Nat.mul_le_mul_right _ hr
  have h3 : (r' + 1) * K = r' * K + K := Nat.succ_mul _ _
  omega
theorem togo_t {K len p r t p' r' t' : Nat} (h : p' ≤ p) (hr : r' ≤ r) (ht : t' < t) : togo K len p' r' t' < togo K len p r t := by
  unfold togo
  have h1 : p' * ((len + 1) * K) ≤ p * ((len + 1) * K) := Nat.mul_le_mul_right _ h
  have h2 : r' * K ≤ r * K := Nat.mul_le_mul_right _ hr
  omega

theorem Only.grown {B : Nat} {w A C : World} {row : Option Nat} (h : Only B w A) (hg : A.grownBy C row) (hr : ∀ k, row = some k → w.heap.size ≤ k) : Only B w C :=
  ⟨hg.os.trans h.os, hg.tape.trans h.tape, hg.output.trans h.output, Nat.le_trans h.size hg.size, fun k hk hn => (hg.block k (Nat.lt_of_lt_of_le hk h.size) (fun e => by have := hr k e.symm; omega)).trans (h.block k hk hn)⟩
theorem CurS.below {B : Nat} {a : Option Addr} {len cap i : Nat} {h : Int} {w w' : World} (hc : CurS B a len cap i h w) {n : Nat} (hn : B < n) (hb : Below n w w') : CurS B a len cap i h w' :=
  ⟨hc.1.kept (hb.mono hn), hc.2.1, (hb.cell (p := ⟨B, 1, none⟩) hn).trans hc.2.2.1, (hb.cell (p := ⟨B, 2, none⟩) hn).trans hc.2.2.2⟩
theorem went_le {len i j : Nat} {h : Int} {x : Nat} (hw : Went len i j h x) (hi : i ≤ len) : j ≤ len ∧ i ≤ j := by rcases hw with ⟨_, rfl⟩ | ⟨_, rfl, _⟩ <;> omega
theorem Row.of_own {W : World} {base : Nat} {g cap : Nat} {bs : List UInt8} (h : W.ownsRow base 5 1 (.slice (some ⟨g, 0, none⟩) bs.length cap) bs.length (cellsB bs)) :
    (base ≤ g ∧ g < W.heap.size) ∧ bs.length ≤ cap ∧ cap ≤ 9223372036854775807 ∧ ∀ j (hj : j < bs.length), W.cell? ⟨g, j, none⟩ = some (.int .u8 (bs[j].toNat : Int)) := by
  refine ⟨h.lt g rfl, ?_⟩
  rcases h.2 with ⟨h1, h2⟩ | ⟨_, _, _, hv, hg, hh, hn, hc, _⟩
  · cases h1
  · cases hv
    refine ⟨hn, hc, fun j hj => ?_⟩
    rw [h.cellAt j (by omega)]; simp [cellsB, hj]

theorem own_snoc {W : World} {b : Nat} {v : Value} {bs : List UInt8} {z : Int} (h : W.ownsRow b 5 1 v (bs.length + 1) (cellsB bs ++ [.int .u8 z])) (h0 : 0 ≤ z) (h1 : z ≤ 255) : ∃ u, W.ownsRow b 5 1 v (bs ++ [u]).length (cellsB (bs ++ [u])) := by
  refine ⟨UInt8.ofNat z.toNat, ?_⟩
  rw [List.length_append, List.length_singleton, cellsB_app]
  have e : cellsB [UInt8.ofNat z.toNat] = [.int .u8 z] := by
    have : (UInt8.ofNat z.toNat).toNat = z.toNat := by rw [UInt8.toNat_ofNat']; omega
    simp only [cellsB, List.map_cons, List.map_nil, this, Int.toNat_of_nonneg h0]
  rw [e]; exact h
theorem own_snoc2 {W : World} {b m : Nat} {v : Value} {bs cs : List UInt8} {z : Int} (h : W.ownsRow b 5 1 v (m + 1) (cellsB (bs ++ cs) ++ [.int .u8 z])) (h0 : 0 ≤ z) (h1 : z ≤ 255) : ∃ u, W.ownsRow b 5 1 v (m + 1) (cellsB (bs ++ (cs ++ [u]))) := by
  refine ⟨UInt8.ofNat z.toNat, ?_⟩
  rw [← List.append_assoc, cellsB_app (bs ++ cs)]
  have e : cellsB [UInt8.ofNat z.toNat] = [.int .u8 z] := by
    have : (UInt8.ofNat z.toNat).toNat = z.toNat := by rw [UInt8.toNat_ofNat']; omega
    simp only [cellsB, List.map_cons, List.map_nil, this, Int.toNat_of_nonneg h0]
  rw [e]; exact h
theorem own_only {W W' : World} {b B g : Nat} {n cap : Nat} {xs : List Value} (h : W.ownsRow b 5 1 (.slice (some ⟨g, 0, none⟩) n cap) n xs) (ho : Only B W W') (hB : B < b) : W'.ownsRow b 5 1 (.slice (some ⟨g, 0, none⟩) n cap) n xs :=
  h.kept (row := some B) ⟨ho.os, ho.tape, ho.output, ho.size, fun k hk hne => ho.block k hk (fun e => hne (by rw [e]))⟩ (.inr (by
    have := (h.lt g rfl).1
    simp [Value.ownBlock]; omega))

/-- a round of the second or the third kind leaves less to do -/
theorem less_three {K len n m c i j j1 : Nat} {h : Int} {t x : Nat} (hK : ∀ h, ∃ t, t < K ∧ Near h t) (hw : Went len i j1 h x) (hx : x % 5 = 1 ∨ x % 5 = 2) (h1 : j1 ≤ j) (h2 : j ≤ len) (hi : i ≤ len) (hm : m < n) (hn : Near h t) (ht : t < K) :
    ∃ t', t' < K ∧ Near (Lcg.next (Lcg.next (Lcg.next h))) t' ∧ togo K len (n - (m + c)) (len - j) t' < togo K len (n - m) (len - i) t := by
  obtain ⟨t', ht', hn'⟩ := hK (Lcg.next (Lcg.next (Lcg.next h)))
  by_cases hc : 0 < c
  · exact ⟨t', ht', hn', togo_p (by omega) (by omega) ht'⟩
  rcases hw with ⟨hlt, rfl⟩ | ⟨rfl, rfl, rfl⟩
  · exact ⟨t', ht', hn', togo_r (by omega) (by omega) ht'⟩
  · obtain ⟨s, hs, hs'⟩ := near_three hn hx
    exact ⟨s, by omega, hs', togo_t (by omega) (by omega) hs⟩
theorem less_one {K len n m i j1 : Nat} {h : Int} {t x : Nat} (hK : ∀ h, ∃ t, t < K ∧ Near h t) (hw : Went len i j1 h x) (hx : x % 5 = 1 ∨ x % 5 = 2) (hi : i ≤ len) (hn : Near h t) (ht : t < K) :
    ∃ t', t' < K ∧ Near (Lcg.next h) t' ∧ togo K len (n - m) (len - j1) t' < togo K len (n - m) (len - i) t := by
  obtain ⟨t', ht', hn'⟩ := hK (Lcg.next h)
  rcases hw with ⟨hlt, rfl⟩ | ⟨rfl, rfl, rfl⟩
  · exact ⟨t', ht', hn', togo_r (by omega) (by omega) ht'⟩
  · obtain ⟨s, hs, hs'⟩ := near_one hn hx
    exact ⟨s, by omega, hs', togo_t (by omega) (by omega) hs⟩

set_option maxRecDepth 100000 in
set_option maxHeartbeats 4000000 in
theorem textD (B : Nat) (a : Option Addr) (len cap : Nat) (w : World) (hc : Cur B a len cap w) (n : Nat) (hn : n ≤ 200) :
    Calls Try.prog 40 #[.pointer (some ⟨B, 0, none⟩), .int .i64 n] w fun e w' => ∃ s : ByteArray, s.size = n ∧ e = .returned (.string s) ∧ Cur B a len cap w' ∧ Only B w w' := by
  obtain ⟨i0, hi, hz0, hz1, hz2⟩ := info_parts Try.info5
  obtain ⟨K, hK⟩ := near_start
  obtain ⟨i, h, hcs⟩ := hc.tell
  have HK := hide hK
  have hBw := hc.hB
  have HC0 : Hid (CurS B a len cap i h (w.alloc (.cells #[] 5))) := hide (hcs.below (n := w.heap.size) hBw ((Below.refl _ _).alloc (Nat.le_refl _) _))
  clear hK hc hcs
  obtain ⟨t, ht, hnear⟩ := HK.out h
  have HN := hide hnear
  have HT := hide ht
  clear hnear ht
  go_enter Try.func40, Try.ntmps40
  go_wp2
  go_loopg [5] (togo K len n (len - i) t) (fun gk o wr => ∃ (bs : List UInt8) (g cap' i : Nat) (h : Int) (t : Nat), o = .slice (some ⟨g, 0, none⟩) bs.length cap' ∧ bs.length ≤ 220 ∧ Hid (wr.ownsRow w.heap.size 5 1 (.slice (some ⟨g, 0, none⟩) bs.length cap') bs.length (cellsB bs)) ∧ Hid (CurS B a len cap i h wr) ∧ Hid (Only B w wr) ∧ Hid (Near h t) ∧ Hid (t < K) ∧ Hid (gk = togo K len (n - bs.length) (len - i) t))
  case atStart => exact ⟨[], w.heap.size, 0, i, h, t, rfl, by simp, hide (World.ownsRow_lit w #[] 0 (Nat.le_refl _) (by unfold maxLen; omega) rfl), HC0, hide ((Only.refl _ _).alloc _), HN, HT, hide rfl⟩
  case round =>
    clear HC0 HN HT
    obtain ⟨bs, g, cap', i, h, t, rfl, hbl, hrow, hcs, hon, hnear, htK, hgk⟩ := hrel
    obtain ⟨⟨hg1, hg2⟩, hcp1, hcp2, hcell⟩ := Row.of_own hrow.out
    have HCELL := hide hcell
    clear hcell
    by_cases hlt : (bs.length : Int) < (n : Int)
    · have hws : w.heap.size ≤ wr.heap.size := hon.out.size
      have hil := hcs.out.2.1
      go_wp2_with fail
      refine (belowT B a len cap i h _ hcs.out 5 (by omega) (by omega)).mono ?_
      rintro e w1 ⟨x1, j1, hw1, rfl, hc1, ho1⟩
      have hr1 := own_only hrow.out ho1 hBw
      have HR1 := hide hr1
      have HC1 := hide hc1
      have HO1 : Hid (Only B w w1) := hide (hon.out.trans ho1)
      have HW1 := hide hw1
      have hj1 := went_le hw1 hil
      have hz1w : w.heap.size ≤ w1.heap.size := Nat.le_trans hws ho1.size
      clear hr1 hc1 ho1 hw1 hrow hcs hon
      obtain ⟨d, hd⟩ : ∃ d : Nat, x1 % 5 = d := ⟨_, rfl⟩
      have hd5 : d < 5 := by omega
      have hde : (x1 : Int) % 5 = (d : Int) := by omega
      have HD := hide hd
      rw [hde]
      clear hde hd
      by_cases hd0 : d = 0
      · subst hd0
        go_wp2_with fail
        refine (byteT B a len cap j1 (Lcg.next h) _ HC1.out).mono ?_
        rintro e w2 ⟨x2, j2, hx2, hw2, rfl, hc2, ho2⟩
        have HR2 := hide (own_only HR1.out ho2 hBw)
        have HC2 := hide hc2
        have HO2 : Hid (Only B w w2) := hide (HO1.out.trans ho2)
        have hj2 := went_le hw2 hj1.1
        have hz2w : w.heap.size ≤ w2.heap.size := HO2.out.size
        clear hc2 ho2 hw2 HR1 HC1 HO1
        go_wp2_with (at_builtin; refine wpList_append_own _ rfl _ _ 22 rfl w.heap.size 5 i0 (.int .u8 0) 1 1 Try.underlying22 hi hz0 hz1 hz2 rfl (by decide) _ _ _ rfl (HR2.out.alloc _) ⟨w2.heap.size, 0, none⟩ 1 1 [.int .u8 (x2 : Int)] rfl rfl (cell_one_new _ _ _) (by simp [Value.oneCell']) (by unfold maxLen; omega) (by omega) (by simp; omega) ?_; intro v' w9 hown' hgrow _; obtain ⟨g', cap9, rfl⟩ := ownsRow_succ hown'; have hg9 := (show (w2.alloc _).grownBy w9 (some g) from hgrow); clear hgrow)
        obtain ⟨u, hu⟩ := own_snoc hown' (by omega) (by omega)
        obtain ⟨t', ht', hn'⟩ := HK.out (Lcg.next (Lcg.next h))
        have hO9 : Only B w w9 := (HO2.out.alloc _).grown hg9 (fun k e => by cases e; exact hg1)
        have hC9 : CurS B a len cap j2 (Lcg.next (Lcg.next h)) w9 := (HC2.out.below (n := w.heap.size) hBw ((Below.refl _ _).alloc hz2w _)).below (n := w.heap.size) hBw ((Below.refl _ _).grown hg9 (by simp; omega) (fun k e => by cases e; exact hg1))
        go_roundg (togo K len (n - (bs ++ [u]).length) (len - j2) t')
        case measure => rw [hgk.out]; exact togo_p (by simp; omega) (by omega) ht'
        case rel => exact ⟨bs ++ [u], g', cap9, j2, _, t', by simp, by simp; omega, hide (by simpa using hu), hide hC9, hide hO9, hide hn', hide ht', hide rfl⟩
      have b0 : ((d : Int) == 0) = false := by simp only [beq_eq_false_iff_ne]; omega
      by_cases hd1 : d = 1
      · subst hd1
        go_wp2_with fail
        refine (belowT B a len cap j1 (Lcg.next h) _ HC1.out 9 (by omega) (by omega)).mono ?_
        rintro e w2 ⟨x2, j2, hw2, rfl, hc2, ho2⟩
        have HR2 := hide (own_only HR1.out ho2 hBw)
        have HC2 := hide hc2
        have HO2 : Hid (Only B w w2) := hide (HO1.out.trans ho2)
        have hj2 := went_le hw2 hj1.1
        clear hc2 ho2 hw2 HR1 HC1 HO1
        obtain ⟨kk, hkk⟩ : ∃ kk : Nat, (x2 : Int) % 9 = (kk : Int) := ⟨x2 % 9, by omega⟩
        have hkk9 : kk < 9 := by omega
        rw [hkk]
        clear hkk
        go_wp2_with fail
        refine (belowT B a len cap j2 (Lcg.next (Lcg.next h)) _ HC2.out 4 (by omega) (by omega)).mono ?_
        rintro e w3 ⟨x3, j3, hw3, rfl, hc3, ho3⟩
        have HR3 := hide (own_only HR2.out ho3 hBw)
        have HC3 := hide hc3
        have HO3 : Hid (Only B w w3) := hide (HO2.out.trans ho3)
        have hj3 := went_le hw3 hj2.1
        clear hc3 ho3 hw3 HR2 HC2 HO2
        obtain ⟨z, hz⟩ : ∃ z : Int, (x3 : Int) % 4 = z := ⟨_, rfl⟩
        have hz0' : 0 ≤ z := by omega
        have hz4 : z < 4 := by omega
        rw [hz]
        clear hz
        go_wp2
        go_loopw [5, 8] (fun o i wr => ∃ (c : Nat) (cs : List UInt8) (g2 cap2 : Nat), i = .int .i64 c ∧ c ≤ kk ∧ cs.length = c ∧ o = .slice (some ⟨g2, 0, none⟩) (bs.length + c) cap2 ∧ w.heap.size ≤ g2 ∧ Hid (wr.ownsRow w.heap.size 5 1 (.slice (some ⟨g2, 0, none⟩) (bs.length + c) cap2) (bs.length + c) (cellsB (bs ++ cs))) ∧ Hid (CurS B a len cap j3 (Lcg.next (Lcg.next (Lcg.next h))) wr) ∧ Hid (Only B w wr)) (fun _ i _ => kk - (intOf i).toNat)
        case atStart => exact ⟨0, [], g, cap', rfl, Nat.zero_le _, rfl, rfl, hg1, hide (by simpa using HR3.out), HC3, HO3⟩
        case round =>
          clear HR3 HC3 HO3
          obtain ⟨c, cs, g2, cap2, rfl, hck, hcl, rfl, hgg, hro, hcu, hoo⟩ := hrel
          have hzw : w.heap.size ≤ wr.heap.size := hoo.out.size
          by_cases hclt : (c : Int) < (kk : Int)
          · go_wp2_with (at_builtin; refine wpList_append_own _ rfl _ _ 22 rfl w.heap.size 5 i0 (.int .u8 0) 1 1 Try.underlying22 hi hz0 hz1 hz2 rfl (by decide) _ _ _ rfl (hro.out.alloc _) ⟨wr.heap.size, 0, none⟩ 1 1 [.int .u8 (97 + z)] rfl rfl (cell_one_new _ _ _) (by simp [Value.oneCell']) (by unfold maxLen; omega) (by omega) (by simp; omega) ?_; intro v' w9 hown' hgrow _; obtain ⟨g', cap9, rfl⟩ := ownsRow_succ hown'; have hg9 := (show (wr.alloc _).grownBy w9 (some g2) from hgrow); clear hgrow)
            obtain ⟨u, hu⟩ := own_snoc2 hown' (by omega) (by omega)
            have hO9 : Only B w w9 := (hoo.out.alloc _).grown hg9 (fun k e => by cases e; exact hgg)
            have hC9 : CurS B a len cap j3 (Lcg.next (Lcg.next (Lcg.next h))) w9 := (hcu.out.below (n := w.heap.size) hBw ((Below.refl _ _).alloc hzw _)).below (n := w.heap.size) hBw ((Below.refl _ _).grown hg9 (by simp; omega) (fun k e => by cases e; exact hgg))
            have hgg9 := (hu.lt g' rfl).1
            exact ⟨⟨c + 1, cs ++ [u], g', cap9, by go_num, by omega, by simp [hcl], rfl, hgg9, hide hu, hide hC9, hide hO9⟩, by simp [intOf]; omega⟩
          · obtain rfl : c = kk := by omega
            obtain ⟨t', ht', hn', hms⟩ := less_three (n := n) (m := bs.length) (c := c) HK.out HW1.out (.inl HD.out) (Nat.le_trans hj2.2 hj3.2) hj3.1 hil (by omega) hnear.out htK.out
            have HT' := hide ht'
            have HN' := hide hn'
            have HMS := hide hms
            clear ht' hn' hms
            go_wp2
            go_roundg (togo K len (n - (bs.length + c)) (len - j3) t')
            case measure => rw [hgk.out]; exact HMS.out
            case rel => exact ⟨bs ++ cs, g2, cap2, j3, _, t', by simp [hcl], by simp [hcl]; omega, hide (by rw [List.length_append, hcl]; exact hro.out), hcu, hoo, HN', HT', hide (by rw [List.length_append, hcl])⟩
      have b1 : ((d : Int) == 1) = false := by simp only [beq_eq_false_iff_ne]; omega
      by_cases hd2 : d = 2
      · subst hd2
        by_cases hemp : bs.length = 0
        · have hng : ¬ (0 : Int) < (bs.length : Int) := by omega
          obtain ⟨t', ht', hn', hms⟩ := less_one (n := n) (m := bs.length) HK.out HW1.out (.inr HD.out) hil hnear.out htK.out
          have HT' := hide ht'
          have HN' := hide hn'
          have HMS := hide hms
          clear ht' hn' hms hemp
          go_wp2
          go_roundg (togo K len (n - bs.length) (len - j1) t')
          case measure => rw [hgk.out]; exact HMS.out
          case rel => exact ⟨bs, g, cap', j1, _, t', rfl, hbl, HR1, HC1, HO1, HN', HT', hide rfl⟩
        have hpos : (0 : Int) < (bs.length : Int) := by omega
        go_wp2_with fail
        refine (belowT B a len cap j1 (Lcg.next h) _ HC1.out _ (by omega) (by omega)).mono ?_
        rintro e w2 ⟨x2, j2, hw2, rfl, hc2, ho2⟩
        have HR2 := hide (own_only HR1.out ho2 hBw)
        have HC2 := hide hc2
        have HO2 : Hid (Only B w w2) := hide (HO1.out.trans ho2)
        have hj2 := went_le hw2 hj1.1
        clear hc2 ho2 hw2 HR1 HC1 HO1
        obtain ⟨fr, hfr⟩ : ∃ fr : Nat, (x2 : Int) % (bs.length : Int) = (fr : Int) := ⟨x2 % bs.length, by simp⟩
        have hfrl : fr < bs.length := by
          have := Int.emod_lt_of_pos (x2 : Int) hpos
          omega
        rw [hfr]
        clear hfr
        go_wp2_with fail
        refine (belowT B a len cap j2 (Lcg.next (Lcg.next h)) _ HC2.out 20 (by omega) (by omega)).mono ?_
        rintro e w3 ⟨x3, j3, hw3, rfl, hc3, ho3⟩
        have HR3 := hide (own_only HR2.out ho3 hBw)
        have HC3 := hide hc3
        have HO3 : Hid (Only B w w3) := hide (HO2.out.trans ho3)
        have hj3 := went_le hw3 hj2.1
        clear hc3 ho3 hw3 HR2 HC2 HO2
        obtain ⟨kk, hkk⟩ : ∃ kk : Nat, (x3 : Int) % 20 = (kk : Int) := ⟨x3 % 20, by omega⟩
        have hkk9 : kk < 20 := by omega
        rw [hkk]
        clear hkk
        go_wp2
        go_loopw [5, 11] (fun o i wr => ∃ (c : Nat) (cs : List UInt8) (g2 cap2 : Nat), i = .int .i64 c ∧ c ≤ kk ∧ cs.length = c ∧ o = .slice (some ⟨g2, 0, none⟩) (bs.length + c) cap2 ∧ w.heap.size ≤ g2 ∧ Hid (wr.ownsRow w.heap.size 5 1 (.slice (some ⟨g2, 0, none⟩) (bs.length + c) cap2) (bs.length + c) (cellsB (bs ++ cs))) ∧ Hid (CurS B a len cap j3 (Lcg.next (Lcg.next (Lcg.next h))) wr) ∧ Hid (Only B w wr)) (fun _ i _ => kk - (intOf i).toNat)
        case atStart => exact ⟨0, [], g, cap', rfl, Nat.zero_le _, rfl, rfl, hg1, hide (by simpa using HR3.out), HC3, HO3⟩
        case round =>
          clear HR3 HC3 HO3
          obtain ⟨c, cs, g2, cap2, rfl, hck, hcl, rfl, hgg, hro, hcu, hoo⟩ := hrel
          have hzw : w.heap.size ≤ wr.heap.size := hoo.out.size
          by_cases hclt : (c : Int) < (kk : Int)
          · have hin : fr + c < (bs ++ cs).length := by rw [List.length_append, hcl]; omega
            have hce : wr.cell? ⟨g2, fr + c, none⟩ = some (.int .u8 ((bs ++ cs)[fr + c].toNat : Int)) := by
              rw [hro.out.cellAt (fr + c) (by omega)]; unfold cellsB; rw [List.getElem?_map, List.getElem?_eq_getElem hin]; rfl
            have hyl := (bs ++ cs)[fr + c].toNat_lt
            obtain ⟨y, hy⟩ : ∃ y : Nat, (bs ++ cs)[fr + c].toNat = y := ⟨_, rfl⟩
            rw [hy] at hce hyl
            clear hy hin
            go_wp2_with (at_builtin; refine wpList_append_own _ rfl _ _ 22 rfl w.heap.size 5 i0 (.int .u8 0) 1 1 Try.underlying22 hi hz0 hz1 hz2 rfl (by decide) _ _ _ rfl (hro.out.alloc _) ⟨wr.heap.size, 0, none⟩ 1 1 [.int .u8 (y : Int)] rfl rfl (cell_one_new _ _ _) (by simp [Value.oneCell']) (by unfold maxLen; omega) (by omega) (by simp; omega) ?_; intro v' w9 hown' hgrow _; obtain ⟨g', cap9, rfl⟩ := ownsRow_succ hown'; have hg9 := (show (wr.alloc _).grownBy w9 (some g2) from hgrow); clear hgrow)
            obtain ⟨u, hu⟩ := own_snoc2 hown' (by omega) (by omega)
            have hO9 : Only B w w9 := (hoo.out.alloc _).grown hg9 (fun k e => by cases e; exact hgg)
            have hC9 : CurS B a len cap j3 (Lcg.next (Lcg.next (Lcg.next h))) w9 := (hcu.out.below (n := w.heap.size) hBw ((Below.refl _ _).alloc hzw _)).below (n := w.heap.size) hBw ((Below.refl _ _).grown hg9 (by simp; omega) (fun k e => by cases e; exact hgg))
            have hgg9 := (hu.lt g' rfl).1
            exact ⟨⟨c + 1, cs ++ [u], g', cap9, by go_num, by omega, by simp [hcl], rfl, hgg9, hide hu, hide hC9, hide hO9⟩, by simp [intOf]; omega⟩
          · obtain rfl : c = kk := by omega
            have hcd : decide ((c : Int) < (c : Int)) = false := by simp
            obtain ⟨t', ht', hn', hms⟩ := less_three (n := n) (m := bs.length) (c := c) HK.out HW1.out (.inr HD.out) (Nat.le_trans hj2.2 hj3.2) hj3.1 hil (by omega) hnear.out htK.out
            have HT' := hide ht'
            have HN' := hide hn'
            have HMS := hide hms
            clear ht' hn' hms
            go_wp2
            go_roundg (togo K len (n - (bs.length + c)) (len - j3) t')
            case measure => rw [hgk.out]; exact HMS.out
            case rel => exact ⟨bs ++ cs, g2, cap2, j3, _, t', by simp [hcl], by simp [hcl]; omega, hide (by rw [List.length_append, hcl]; exact hro.out), hcu, hoo, HN', HT', hide (by rw [List.length_append, hcl])⟩
      have b2 : ((d : Int) == 2) = false := by simp only [beq_eq_false_iff_ne]; omega
      go_wp2_with fail
      refine (belowT B a len cap j1 (Lcg.next h) _ HC1.out 26 (by omega) (by omega)).mono ?_
      rintro e w2 ⟨x2, j2, hw2, rfl, hc2, ho2⟩
      have HR2 := hide (own_only HR1.out ho2 hBw)
      have HC2 := hide hc2
      have HO2 : Hid (Only B w w2) := hide (HO1.out.trans ho2)
      have hj2 := went_le hw2 hj1.1
      have hz2w : w.heap.size ≤ w2.heap.size := HO2.out.size
      clear hc2 ho2 hw2 HR1 HC1 HO1
      obtain ⟨z, hz⟩ : ∃ z : Int, (x2 : Int) % 26 = z := ⟨_, rfl⟩
      have hz0' : 0 ≤ z := by omega
      have hz4 : z < 26 := by omega
      rw [hz]
      clear hz
      go_wp2_with (at_builtin; refine wpList_append_own _ rfl _ _ 22 rfl w.heap.size 5 i0 (.int .u8 0) 1 1 Try.underlying22 hi hz0 hz1 hz2 rfl (by decide) _ _ _ rfl (HR2.out.alloc _) ⟨w2.heap.size, 0, none⟩ 1 1 [.int .u8 (97 + z)] rfl rfl (cell_one_new _ _ _) (by simp [Value.oneCell']) (by unfold maxLen; omega) (by omega) (by simp; omega) ?_; intro v' w9 hown' hgrow _; obtain ⟨g', cap9, rfl⟩ := ownsRow_succ hown'; have hg9 := (show (w2.alloc _).grownBy w9 (some g) from hgrow); clear hgrow)
      obtain ⟨u, hu⟩ := own_snoc hown' (by omega) (by omega)
      obtain ⟨t', ht', hn'⟩ := HK.out (Lcg.next (Lcg.next h))
      have hO9 : Only B w w9 := (HO2.out.alloc _).grown hg9 (fun k e => by cases e; exact hg1)
      have hC9 : CurS B a len cap j2 (Lcg.next (Lcg.next h)) w9 := (HC2.out.below (n := w.heap.size) hBw ((Below.refl _ _).alloc hz2w _)).below (n := w.heap.size) hBw ((Below.refl _ _).grown hg9 (by simp; omega) (fun k e => by cases e; exact hg1))
      go_roundg (togo K len (n - (bs ++ [u]).length) (len - j2) t')
      case measure => rw [hgk.out]; exact togo_p (by simp; omega) (by omega) ht'
      case rel => exact ⟨bs ++ [u], g', cap9, j2, _, t', by simp, by simp; omega, hide (by simpa using hu), hide hC9, hide hO9, hide hn', hide ht', hide rfl⟩
    · have hle : (n : Int) ≤ (bs.length : Int) := by omega
      have hcv := run_convert_bytes_back (P := Try.prog) wr 22 9 5 ⟨g, 0, none⟩ cap' (bs.take n) Try.underlying22 Try.underlying5 Try.underlying9 (by
        intro j hj
        rw [List.length_take] at hj
        have h1 := HCELL.out j (by omega)
        by_cases h0 : j = 0
        · subst h0; simpa [Addr.add] using h1
        · simpa [Addr.add, h0] using h1)
      rw [List.length_take, Nat.min_eq_left (by omega)] at hcv
      go_wp2
      go_ret
      exact ⟨⟨(bs.take n).toArray⟩, by show (bs.take n).toArray.size = n; simp; omega, rfl, hcs.out.1, hon.out⟩
end Go.Proofs.Ythjglbimkfajlaa
