/- My texts ItR, Tx, in this order. -/
import Derived.Shelf.Strconv.Itoa3
import Derived.Shelf.Strings.Repeat
import Derived.Test.YtaoijdoejglgiaaDoorPk08
import Derived.Test.YtaoijdoejglgiaaDoorPk07
import Derived.Lib.AppendIntMem
/- The library's contracts of strconv.Itoa and strings.Repeat laid at this seat's numbers. -/
namespace Go.Proofs.YtaoijdoejglgiaaDoor
open Go.Shelf Go.Sort Go.Lib
def Tryd.laysM171_ren : Go.Shelf.Ren := ⟨fun | 171 => 31 | 243 => 38 | 246 => 51 | 283 => 67 | 284 => 68 | 285 => 69 | 286 => 70 | 129 => 82 | 317 => 81 | 318 => 83 | 319 => 84 | 320 => 85 | 337 => 90 | 338 => 91 | n => n, fun | 3 => 3 | 9 => 9 | 2 => 2 | 4 => 4 | 171 => 89 | 0 => 0 | 53 => 57 | 37 => 65 | 5 => 5 | 173 => 92 | 212 => 104 | 51 => 47 | 20 => 20 | 213 => 105 | 46 => 58 | 232 => 111 | 233 => 112 | n => n, fun | 17 => 1 | 18 => 3 | 19 => 4 | n => n⟩
theorem Tryd.laysM171 : Go.Proofs.LaysM.n171 Tryd.prog Tryd.laysM171_ren := {
  mixed := by kernel_rfl
  f129 := Tryd.func82.trans (congrArg some (by kernel_rfl))
  f171 := Tryd.func31.trans (congrArg some (by kernel_rfl))
  f243 := Tryd.func38.trans (congrArg some (by kernel_rfl))
  f246 := Tryd.func51.trans (congrArg some (by kernel_rfl))
  f283 := Tryd.func67.trans (congrArg some (by kernel_rfl))
  f284 := Tryd.func68.trans (congrArg some (by kernel_rfl))
  f285 := Tryd.func69.trans (congrArg some (by kernel_rfl))
  f286 := Tryd.func70.trans (congrArg some (by kernel_rfl))
  f317 := Tryd.func81.trans (congrArg some (by kernel_rfl))
  f318 := Tryd.func83.trans (congrArg some (by kernel_rfl))
  f319 := Tryd.func84.trans (congrArg some (by kernel_rfl))
  f320 := Tryd.func85.trans (congrArg some (by kernel_rfl))
  f337 := Tryd.func90.trans (congrArg some (by kernel_rfl))
  f338 := Tryd.func91.trans (congrArg some (by kernel_rfl))
  t0 := Tryd.underlying0
  a0 := Tryd.isAgg0
  z0 := Tryd.sizeOf0
  v0 := Tryd.zeroValue0
  t2 := Tryd.underlying2
  a2 := Tryd.isAgg2
  z2 := Tryd.sizeOf2
  v2 := Tryd.zeroValue2
  t3 := Tryd.underlying3
  a3 := Tryd.isAgg3
  z3 := Tryd.sizeOf3
  v3 := Tryd.zeroValue3
  t4 := Tryd.underlying4
  a4 := Tryd.isAgg4
  z4 := Tryd.sizeOf4
  v4 := Tryd.zeroValue4
  t5 := Tryd.underlying5
  a5 := Tryd.isAgg5
  z5 := Tryd.sizeOf5
  v5 := Tryd.zeroValue5
  t9 := Tryd.underlying9
  a9 := Tryd.isAgg9
  z9 := Tryd.sizeOf9
  v9 := Tryd.zeroValue9
  t20 := Tryd.underlying20
  a20 := Tryd.isAgg20
  z20 := Tryd.sizeOf20
  v20 := Tryd.zeroValue20
  t37 := Tryd.underlying65
  a37 := Tryd.isAgg65
  z37 := Tryd.sizeOf65
  v37 := Tryd.zeroValue65
  t46 := Tryd.underlying58
  a46 := Tryd.isAgg58
  z46 := Tryd.sizeOf58
  v46 := Tryd.zeroValue58
  t51 := Tryd.underlying47
  a51 := Tryd.isAgg47
  z51 := Tryd.sizeOf47
  v51 := Tryd.zeroValue47
  t53 := Tryd.underlying57
  a53 := Tryd.isAgg57
  z53 := Tryd.sizeOf57
  v53 := Tryd.zeroValue57
  t171 := Tryd.underlying89
  a171 := Tryd.isAgg89
  z171 := Tryd.sizeOf89
  v171 := Tryd.zeroValue89
  t173 := Tryd.underlying92
  a173 := Tryd.isAgg92
  z173 := Tryd.sizeOf92
  v173 := Tryd.zeroValue92
  t212 := Tryd.underlying104
  a212 := Tryd.isAgg104
  z212 := Tryd.sizeOf104
  v212 := Tryd.zeroValue104
  t213 := Tryd.underlying105
  a213 := Tryd.isAgg105
  z213 := Tryd.sizeOf105
  t232 := Tryd.underlying111
  a232 := Tryd.isAgg111
  z232 := Tryd.sizeOf111
  v232 := Tryd.zeroValue111
  t233 := Tryd.underlying112
  a233 := Tryd.isAgg112
  z233 := Tryd.sizeOf112
  v233 := Tryd.zeroValue112
  g17 := by kernel_rfl
  g18 := by kernel_rfl
  g19 := by kernel_rfl
  i0 := by kernel_rfl
  i2 := by kernel_rfl
  i3 := by kernel_rfl
  i4 := by kernel_rfl
  i5 := by kernel_rfl
  i9 := by kernel_rfl
  i20 := by kernel_rfl
  i37 := by kernel_rfl
  i46 := by kernel_rfl
  i51 := by kernel_rfl
  i53 := by kernel_rfl
  i171 := by kernel_rfl
  i173 := by kernel_rfl
  i212 := by kernel_rfl
  i232 := by kernel_rfl
  i233 := by kernel_rfl
  m17 := by kernel_rfl
  m18 := by kernel_rfl
  m19 := by kernel_rfl }
open Go.RowKit Go.Sort Go.Lib in
theorem Tryd.strconv_Itoa (n : Int) (h0 : -9223372036854775808 ≤ n) (h1 : n ≤ 9223372036854775807) (w : World) (htab : Lib.TabIs Tryd.prog w "internal/strconv.uint64pow10" .u64 Lib.pow10Tab) :
    Calls Tryd.prog 31 #[.int .i64 n] w fun e w' => e = .returned (.string ⟨(Lib.itoa n).toArray⟩) ∧ ∃ k os, w' = grow (w.drewN k) os := Any.strconv_Itoa Tryd.laysM171 n h0 h1 w htab
def Tryd.lays105_ren : Go.Shelf.Ren := ⟨fun | 105 => 32 | 212 => 39 | 99 => 40 | 165 => 41 | 166 => 42 | 170 => 43 | 169 => 44 | 263 => 52 | 264 => 53 | 206 => 54 | 240 => 55 | 241 => 56 | 276 => 71 | 277 => 72 | n => n, fun | 9 => 9 | 3 => 3 | 4 => 4 | 20 => 20 | 0 => 0 | 46 => 58 | 109 => 61 | 5 => 5 | 72 => 67 | 76 => 71 | 51 => 47 | 146 => 59 | 53 => 57 | 148 => 82 | 70 => 64 | 37 => 65 | 75 => 70 | 127 => 84 | 164 => 94 | 80 => 74 | n => n, fun | n => n⟩
theorem Tryd.lays105 : Go.Proofs.Lays.n105 Tryd.prog Tryd.lays105_ren := {
  mixed := by kernel_rfl
  f99 := Tryd.func40.trans (congrArg some (by kernel_rfl))
  f105 := Tryd.func32.trans (congrArg some (by kernel_rfl))
  f165 := Tryd.func41.trans (congrArg some (by kernel_rfl))
  f166 := Tryd.func42.trans (congrArg some (by kernel_rfl))
  f169 := Tryd.func44.trans (congrArg some (by kernel_rfl))
  f170 := Tryd.func43.trans (congrArg some (by kernel_rfl))
  f206 := Tryd.func54.trans (congrArg some (by kernel_rfl))
  f212 := Tryd.func39.trans (congrArg some (by kernel_rfl))
  f240 := Tryd.func55.trans (congrArg some (by kernel_rfl))
  f241 := Tryd.func56.trans (congrArg some (by kernel_rfl))
  f263 := Tryd.func52.trans (congrArg some (by kernel_rfl))
  f264 := Tryd.func53.trans (congrArg some (by kernel_rfl))
  f276 := Tryd.func71.trans (congrArg some (by kernel_rfl))
  f277 := Tryd.func72.trans (congrArg some (by kernel_rfl))
  t0 := Tryd.underlying0
  a0 := Tryd.isAgg0
  z0 := Tryd.sizeOf0
  v0 := Tryd.zeroValue0
  t3 := Tryd.underlying3
  a3 := Tryd.isAgg3
  z3 := Tryd.sizeOf3
  v3 := Tryd.zeroValue3
  t4 := Tryd.underlying4
  a4 := Tryd.isAgg4
  z4 := Tryd.sizeOf4
  v4 := Tryd.zeroValue4
  t5 := Tryd.underlying5
  a5 := Tryd.isAgg5
  z5 := Tryd.sizeOf5
  v5 := Tryd.zeroValue5
  t9 := Tryd.underlying9
  a9 := Tryd.isAgg9
  z9 := Tryd.sizeOf9
  v9 := Tryd.zeroValue9
  t20 := Tryd.underlying20
  a20 := Tryd.isAgg20
  z20 := Tryd.sizeOf20
  v20 := Tryd.zeroValue20
  t37 := Tryd.underlying65
  a37 := Tryd.isAgg65
  z37 := Tryd.sizeOf65
  v37 := Tryd.zeroValue65
  t46 := Tryd.underlying58
  a46 := Tryd.isAgg58
  z46 := Tryd.sizeOf58
  v46 := Tryd.zeroValue58
  t51 := Tryd.underlying47
  a51 := Tryd.isAgg47
  z51 := Tryd.sizeOf47
  v51 := Tryd.zeroValue47
  t53 := Tryd.underlying57
  a53 := Tryd.isAgg57
  z53 := Tryd.sizeOf57
  v53 := Tryd.zeroValue57
  t70 := Tryd.underlying64
  a70 := Tryd.isAgg64
  z70 := Tryd.sizeOf64
  v70 := Tryd.zeroValue64
  t72 := Tryd.underlying67
  a72 := Tryd.isAgg67
  z72 := Tryd.sizeOf67
  v72 := Tryd.zeroValue67
  t75 := Tryd.underlying70
  a75 := Tryd.isAgg70
  z75 := Tryd.sizeOf70
  v75 := Tryd.zeroValue70
  t76 := Tryd.underlying71
  a76 := Tryd.isAgg71
  z76 := Tryd.sizeOf71
  v76 := Tryd.zeroValue71
  t109 := Tryd.underlying61
  a109 := Tryd.isAgg61
  z109 := Tryd.sizeOf61
  v109 := Tryd.zeroValue61
  t127 := Tryd.underlying84
  a127 := Tryd.isAgg84
  z127 := Tryd.sizeOf84
  v127 := Tryd.zeroValue84
  t146 := Tryd.underlying59
  a146 := Tryd.isAgg59
  z146 := Tryd.sizeOf59
  v146 := Tryd.zeroValue59
  t148 := Tryd.underlying82
  a148 := Tryd.isAgg82
  z148 := Tryd.sizeOf82
  v148 := Tryd.zeroValue82
  t164 := Tryd.underlying94
  a164 := Tryd.isAgg94
  z164 := Tryd.sizeOf94
  v164 := Tryd.zeroValue94 }
theorem Tryd.Builder_Extra_105 : Builder.Extra Tryd.prog Tryd.lays105_ren := {
  sizeBuilder := by kernel_rfl
  liesBuilder := by kernel_rfl
  t5 := Tryd.underlying5
  a5 := Tryd.isAgg5
  z5 := Tryd.sizeOf5
  v5 := Tryd.zeroValue5
  infoByte := by kernel_rfl
  cellsByte := by kernel_rfl
  sizeByte := by kernel_rfl
  neB5 := by decide }
open Go.RowKit Go.Lib in
theorem Tryd.strings_Repeat (s : ByteArray) (c : Nat) (w : World) (hc : c ≤ 9223372036854775807) (hlen : s.size * c ≤ 140737488355328) :
    Calls Tryd.prog 32 #[.string s, .int .i64 c] w fun e w' => e = .returned (.string ⟨(Lib.repeatL s.data.toList c).toArray⟩) ∧ Below w.heap.size w w' := Any.strings_Repeat Tryd.lays105 Tryd.Builder_Extra_105 s c w hc hlen
end Go.Proofs.YtaoijdoejglgiaaDoor

/- The walks of limbsText and l02Text: a list of limbs as a decimal numeral, nine digits at a time. -/
namespace Go.Proofs.YtaoijdoejglgiaaDoor
open Go.RowKit Go.Sort
set_option linter.unusedVariables false

/-- the table of powers of ten holds what its text says -/
def Tabs (w : World) : Prop := Lib.TabIs Tryd.prog w "internal/strconv.uint64pow10" .u64 Lib.pow10Tab
theorem Tabs.below {w w' : World} (h : Tabs w) (hb : Below w.heap.size w w') : Tabs w' := Lib.tabBelow_of_tabIs h w' hb
theorem below_grown (w : World) (k : Nat) (os : Array Obj) : Below w.heap.size w (grow (w.drewN k) os) :=
  ⟨rfl, rfl, rfl, by simp [grow], fun i hi => by show (w.heap ++ os)[i]? = _; rw [Array.getElem?_append_left hi]⟩
def bLen : Value → Nat | .string b => b.size | _ => 0
/-- the numeral of a number -/
def decBs (m : Nat) : ByteArray := ⟨(Lib.decDigits m).toArray⟩
theorem bsize (b : ByteArray) : b.data.toList.length = b.size := by simp only [Array.length_toList]; rfl
theorem ret_str' {a b : ByteArray} (h : a.data.toList = b.data.toList) : Ending.returned (.string a) = .returned (.string b) := by
  have : a = b := ByteArray.ext (Array.ext' h)
  rw [this]
theorem dec_short' {xs : List Nat} (hs : Num.Small xs) (k : Nat) (hk : 10 * xs.length ≤ k + 1) : (Lib.decDigits (Num.nat xs)).length ≤ k + 1 := by
  refine TxN.dec_len_le k _ ?_
  have h1 := Num.nat_lt hs
  have h2 : (4294967296 : Nat) ^ xs.length ≤ (10 ^ 10) ^ xs.length := Nat.pow_le_pow_left (by decide) _
  have h3 : ((10 : Nat) ^ 10) ^ xs.length ≤ 10 ^ (k + 1) := by
    rw [← Nat.pow_mul]; exact Nat.pow_le_pow_right (by decide) hk
  exact Nat.lt_of_lt_of_le h1 (Nat.le_trans h2 h3)
theorem dec_short {xs : List Nat} (hs : Num.Small xs) (hn : xs.length ≤ 40) : (Lib.decDigits (Num.nat xs)).length ≤ 400 := dec_short' hs 399 (by omega)
theorem bsize_app (a b : ByteArray) : (a ++ b).size = a.size + b.size := by simp [ByteArray.size_append]
/-- nine digits more -/
theorem nine {M q r m : Nat} {D Z tb : ByteArray} (hE : Lib.decDigits m ++ tb.data.toList = Lib.decDigits M) (hm : m = q * 1000000000 + r) (hq : q ≠ 0) (hr : r < 1000000000) (hD : D.data.toList = Lib.decDigits r) (hZ : Z.data.toList = List.replicate (9 - D.size) 48) :
    Lib.decDigits q ++ (Z ++ D ++ tb).data.toList = Lib.decDigits M := by
  rw [hm, TxN.dec9 q r (by omega) hr, ← hD, bsize, ← hZ] at hE
  rw [← hE]; simp

set_option maxHeartbeats 4000000 in
set_option maxRecDepth 20000 in
theorem limbsTextI (a : Option Addr) (n ca : Nat) (xs : List Nat) (w : World) (ha : Seg w a n ca xs) (hn : n ≤ 40) (htab : Tabs w) :
    Calls Tryd.prog 20 #[.slice a n ca] w fun e w' => e = .returned (.string (decBs (Num.nat xs))) ∧ Below w.heap.size w w' := by
  obtain rfl := ha.1
  have HM := hide (dec_short ha.2.2.2.1 hn)
  have HT := hide htab
  have HA := hide ha
  clear ha htab
  go_enter Tryd.func20, Tryd.ntmps20
  go_wp2
  go_loopw [0, 3, 4, 5, 6] (fun l t _ _ _ wr => ∃ (a : Option Addr) (ca : Nat) (ys : List Nat) (tb : ByteArray), l = .slice a ys.length ca ∧ t = .string tb ∧ ys.length ≤ 40 ∧ tb.size ≤ 400 ∧ Hid (Seg wr a ys.length ca ys) ∧ Hid (Below w.heap.size w wr) ∧ Hid (Lib.decDigits (Num.nat ys) ++ tb.data.toList = Lib.decDigits (Num.nat xs))) (fun _ t _ _ _ _ => 1000 - bLen t)
  case atStart => exact ⟨a, ca, xs, ⟨#[]⟩, rfl, rfl, hn, by decide, HA, hide (bl_refl w), hide (by simp)⟩
  case round =>
    obtain ⟨a, ca, ys, tb, rfl, rfl, hl, ht, hS, hB, hE⟩ := hrel
    go_wp2_with fail
    refine (shortI a _ ca 1000000000 ys _ hS.out (by omega) (by omega) (by omega)).mono ?_
    rintro e w1 ⟨qs, r, rfl, hD, ho, hb1⟩
    have hql := hD.1
    have hr := hD.2.2.1
    have HN : Hid (Num.nat ys = Num.nat qs * 1000000000 + r) := hide (by have := hD.2.2.2; rw [List.drop_zero, List.drop_zero] at this; exact this)
    have HQ := hide hD.2.1
    have HB1 := hide (bl_trans hB.out hb1)
    have HO := hide ho
    clear hD ho hb1 hB hS
    go_wp2_with fail
    refine (trimI _ _ _ qs _ _ HO.out).mono ?_
    rintro e w2 ⟨hw2, a', c', rfl, ho'⟩
    subst w2
    have HO2 := hide (ho' _ HO.out)
    clear ho'
    go_wp2_with fail
    refine (Tryd.strconv_Itoa r (by omega) (by omega) _ (HT.out.below HB1.out)).mono ?_
    rintro e w3 ⟨rfl, k3, os3, hw3⟩
    have hb3 : Below w1.heap.size w1 w3 := by rw [hw3]; exact below_grown _ _ _
    have HB3 := hide (bl_trans HB1.out hb3)
    have HS3 := hide (HO2.out.below hb3).seg
    have hqle := limbs_len_le HQ.out
    clear hw3 hb3 HO HO2 HB1
    obtain ⟨D, hD⟩ : ∃ D : ByteArray, D = ⟨(Lib.itoa (r : Int)).toArray⟩ := ⟨_, rfl⟩
    have hDl : D.data.toList = Lib.decDigits r := by rw [hD, Lib.itoa_nonneg]
    have hDs : D.size ≤ 9 := by rw [← bsize, hDl]; exact TxN.dec_len9 hr
    have hDp : 1 ≤ D.size := by rw [← bsize, hDl]; exact TxN.dec_pos r
    have HDL := hide hDl
    clear hDl
    rw [← hD]
    clear hD
    by_cases hz : Num.nat qs = 0
    · have HL : Hid ((Num.limbs (Num.nat qs)).length = 0) := hide (by rw [hz, Num.limbs_zero]; rfl)
      have HZ := hide hz
      clear hz
      have hL := HL.out
      go_wp2
      go_ret
      refine ⟨ret_str' ?_, HB3.out⟩
      have e1 := HN.out
      rw [HZ.out, Nat.zero_mul, Nat.zero_add] at e1
      have e2 := hE.out
      rw [e1, ← HDL.out] at e2
      simp only [decBs]
      rw [← e2]; simp
    · have HL : Hid (0 < (Num.limbs (Num.nat qs)).length) := hide (by
        refine List.length_pos_iff.2 fun e => hz (Num.limbs_eq_nil.1 e))
      have HZ := hide hz
      clear hz
      have hL := HL.out
      have hL' : ((((Num.limbs (Num.nat qs)).length : Nat) : Int) == 0) = false := by rw [beq_eq_false_iff_ne]; omega
      have e9 : (9 : Int) - (D.size : Int) = ((9 - D.size : Nat) : Int) := by omega
      go_wp2_with fail
      refine (Tryd.strings_Repeat _ (9 - D.size) _ (by omega) (by show 1 * (9 - D.size) ≤ _; omega)).mono ?_
      rintro e w4 ⟨rfl, hb4⟩
      have HB4 := hide (bl_trans HB3.out hb4)
      have HS4 := hide (HS3.out.below hb4)
      clear hb4 HB3 HS3
      obtain ⟨Z, hZ⟩ : ∃ Z : ByteArray, Z = ⟨(Lib.repeatL ({ data := #[48] } : ByteArray).data.toList (9 - D.size)).toArray⟩ := ⟨_, rfl⟩
      have hZl : Z.data.toList = List.replicate (9 - D.size) 48 := by rw [hZ]; exact TxN.rep_eq _
      have hZs : Z.size = 9 - D.size := by rw [← bsize, hZl]; simp
      rw [← hZ]
      have HE := hide (nine hE.out HN.out HZ.out hr HDL.out hZl)
      clear hZ hZl hE HN
      have HSZ : Hid (Z.size + D.size + tb.size ≤ 400) := hide (by
        have e1 := congrArg List.length HE.out
        rw [List.length_append, bsize, bsize_app, bsize_app] at e1
        have := HM.out
        omega)
      go_wp2
      exact ⟨⟨a', c', Num.limbs (Num.nat qs), Z ++ D ++ tb, rfl, rfl, by omega, by have := HSZ.out; rw [bsize_app, bsize_app]; omega, HS4, HB4, hide (by rw [Num.nat_limbs]; exact HE.out)⟩, by have := HSZ.out; simp only [bLen, bsize_app]; omega⟩
end Go.Proofs.YtaoijdoejglgiaaDoor
