/- My texts ItR, Tx, in this order. -/
import Derived.Shelf.Strconv.Itoa3
import Derived.Shelf.Strings.Repeat
import Derived.Test.YtpmgpdlminacaaaGreatDoorPk02
import Derived.Test.YtpmgpdlminacaaaGreatDoorPk13
import Derived.Test.YtpmgpdlminacaaaGreatDoorPk35
import Derived.Lib.AppendIntMem
/- The library's contracts of strconv.Itoa and strings.Repeat laid at this seat's numbers. -/
namespace Go.Proofs.YtpmgpdlminacaaaGreatDoor
open Go.Shelf Go.Sort Go.Lib
def Tryz.laysM171_ren : Go.Shelf.Ren := ⟨fun | 171 => 120 | 243 => 151 | 246 => 169 | 283 => 181 | 284 => 182 | 285 => 183 | 286 => 184 | 129 => 144 | 317 => 188 | 318 => 189 | 319 => 190 | 320 => 191 | 337 => 192 | 338 => 193 | n => n, fun | 3 => 3 | 9 => 9 | 2 => 2 | 4 => 4 | 171 => 181 | 0 => 0 | 53 => 126 | 37 => 32 | 5 => 5 | 173 => 183 | 212 => 191 | 51 => 67 | 20 => 20 | 213 => 192 | 46 => 127 | 232 => 193 | 233 => 194 | n => n, fun | 17 => 4 | 18 => 5 | 19 => 6 | n => n⟩
set_option maxRecDepth 100000 in
theorem Tryz.laysM171 : Go.Proofs.LaysM.n171 Tryz.prog Tryz.laysM171_ren := {
  mixed := by kernel_rfl
  f129 := Tryz.func144.trans (congrArg some (by kernel_rfl))
  f171 := Tryz.func120.trans (congrArg some (by kernel_rfl))
  f243 := Tryz.func151.trans (congrArg some (by kernel_rfl))
  f246 := Tryz.func169.trans (congrArg some (by kernel_rfl))
  f283 := Tryz.func181.trans (congrArg some (by kernel_rfl))
  f284 := Tryz.func182.trans (congrArg some (by kernel_rfl))
  f285 := Tryz.func183.trans (congrArg some (by kernel_rfl))
  f286 := Tryz.func184.trans (congrArg some (by kernel_rfl))
  f317 := Tryz.func188.trans (congrArg some (by kernel_rfl))
  f318 := Tryz.func189.trans (congrArg some (by kernel_rfl))
  f319 := Tryz.func190.trans (congrArg some (by kernel_rfl))
  f320 := Tryz.func191.trans (congrArg some (by kernel_rfl))
  f337 := Tryz.func192.trans (congrArg some (by kernel_rfl))
  f338 := Tryz.func193.trans (congrArg some (by kernel_rfl))
  t0 := Tryz.underlying0
  a0 := Tryz.isAgg0
  z0 := Tryz.sizeOf0
  v0 := Tryz.zeroValue0
  t2 := Tryz.underlying2
  a2 := Tryz.isAgg2
  z2 := Tryz.sizeOf2
  v2 := Tryz.zeroValue2
  t3 := Tryz.underlying3
  a3 := Tryz.isAgg3
  z3 := Tryz.sizeOf3
  v3 := Tryz.zeroValue3
  t4 := Tryz.underlying4
  a4 := Tryz.isAgg4
  z4 := Tryz.sizeOf4
  v4 := Tryz.zeroValue4
  t5 := Tryz.underlying5
  a5 := Tryz.isAgg5
  z5 := Tryz.sizeOf5
  v5 := Tryz.zeroValue5
  t9 := Tryz.underlying9
  a9 := Tryz.isAgg9
  z9 := Tryz.sizeOf9
  v9 := Tryz.zeroValue9
  t20 := Tryz.underlying20
  a20 := Tryz.isAgg20
  z20 := Tryz.sizeOf20
  v20 := Tryz.zeroValue20
  t37 := Tryz.underlying32
  a37 := Tryz.isAgg32
  z37 := Tryz.sizeOf32
  v37 := Tryz.zeroValue32
  t46 := Tryz.underlying127
  a46 := Tryz.isAgg127
  z46 := Tryz.sizeOf127
  v46 := Tryz.zeroValue127
  t51 := Tryz.underlying67
  a51 := Tryz.isAgg67
  z51 := Tryz.sizeOf67
  v51 := Tryz.zeroValue67
  t53 := Tryz.underlying126
  a53 := Tryz.isAgg126
  z53 := Tryz.sizeOf126
  v53 := Tryz.zeroValue126
  t171 := Tryz.underlying181
  a171 := Tryz.isAgg181
  z171 := Tryz.sizeOf181
  v171 := Tryz.zeroValue181
  t173 := Tryz.underlying183
  a173 := Tryz.isAgg183
  z173 := Tryz.sizeOf183
  v173 := Tryz.zeroValue183
  t212 := Tryz.underlying191
  a212 := Tryz.isAgg191
  z212 := Tryz.sizeOf191
  v212 := Tryz.zeroValue191
  t213 := Tryz.underlying192
  a213 := Tryz.isAgg192
  z213 := Tryz.sizeOf192
  t232 := Tryz.underlying193
  a232 := Tryz.isAgg193
  z232 := Tryz.sizeOf193
  v232 := Tryz.zeroValue193
  t233 := Tryz.underlying194
  a233 := Tryz.isAgg194
  z233 := Tryz.sizeOf194
  v233 := Tryz.zeroValue194
  g17 := by kernel_rfl
  g18 := by kernel_rfl
  g19 := by kernel_rfl
  i0 := by kernel_rfl
  i2 := by kernel_rfl
  i3 := by kernel_rfl
  i4 := by kernel_rfl
  i5 := by kernel_rfl
  i9 := by kernel_rfl
  i20 := by kernel_rfl
  i37 := by kernel_rfl
  i46 := by kernel_rfl
  i51 := by kernel_rfl
  i53 := by kernel_rfl
  i171 := by kernel_rfl
  i173 := by kernel_rfl
  i212 := by kernel_rfl
  i232 := by kernel_rfl
  i233 := by kernel_rfl
  m17 := by kernel_rfl
  m18 := by kernel_rfl
  m19 := by kernel_rfl }
open Go.RowKit Go.Sort Go.Lib in
theorem Tryz.strconv_Itoa (n : Int) (h0 : -9223372036854775808 ≤ n) (h1 : n ≤ 9223372036854775807) (w : World) (htab : Lib.TabIs Tryz.prog w "internal/strconv.uint64pow10" .u64 Lib.pow10Tab) :
    Calls Tryz.prog 120 #[.int .i64 n] w fun e w' => e = .returned (.string ⟨(Lib.itoa n).toArray⟩) ∧ ∃ k os, w' = grow (w.drewN k) os := Any.strconv_Itoa Tryz.laysM171 n h0 h1 w htab
def Tryz.lays105_ren : Go.Shelf.Ren := ⟨fun | 105 => 121 | 212 => 152 | 99 => 153 | 165 => 154 | 166 => 52 | 170 => 51 | 169 => 54 | 263 => 170 | 264 => 171 | 206 => 102 | 240 => 97 | 241 => 172 | 276 => 132 | 277 => 185 | n => n, fun | 9 => 9 | 3 => 3 | 4 => 4 | 20 => 20 | 0 => 0 | 46 => 127 | 109 => 155 | 5 => 5 | 72 => 82 | 76 => 86 | 51 => 67 | 146 => 153 | 53 => 126 | 148 => 171 | 70 => 80 | 37 => 32 | 75 => 85 | 127 => 119 | 164 => 144 | 80 => 89 | n => n, fun | n => n⟩
set_option maxRecDepth 100000 in
theorem Tryz.lays105 : Go.Proofs.Lays.n105 Tryz.prog Tryz.lays105_ren := {
  mixed := by kernel_rfl
  f99 := Tryz.func153.trans (congrArg some (by kernel_rfl))
  f105 := Tryz.func121.trans (congrArg some (by kernel_rfl))
  f165 := Tryz.func154.trans (congrArg some (by kernel_rfl))
  f166 := Tryz.func52.trans (congrArg some (by kernel_rfl))
  f169 := Tryz.func54.trans (congrArg some (by kernel_rfl))
  f170 := Tryz.func51.trans (congrArg some (by kernel_rfl))
  f206 := Tryz.func102.trans (congrArg some (by kernel_rfl))
  f212 := Tryz.func152.trans (congrArg some (by kernel_rfl))
  f240 := Tryz.func97.trans (congrArg some (by kernel_rfl))
  f241 := Tryz.func172.trans (congrArg some (by kernel_rfl))
  f263 := Tryz.func170.trans (congrArg some (by kernel_rfl))
  f264 := Tryz.func171.trans (congrArg some (by kernel_rfl))
  f276 := Tryz.func132.trans (congrArg some (by kernel_rfl))
  f277 := Tryz.func185.trans (congrArg some (by kernel_rfl))
  t0 := Tryz.underlying0
  a0 := Tryz.isAgg0
  z0 := Tryz.sizeOf0
  v0 := Tryz.zeroValue0
  t3 := Tryz.underlying3
  a3 := Tryz.isAgg3
  z3 := Tryz.sizeOf3
  v3 := Tryz.zeroValue3
  t4 := Tryz.underlying4
  a4 := Tryz.isAgg4
  z4 := Tryz.sizeOf4
  v4 := Tryz.zeroValue4
  t5 := Tryz.underlying5
  a5 := Tryz.isAgg5
  z5 := Tryz.sizeOf5
  v5 := Tryz.zeroValue5
  t9 := Tryz.underlying9
  a9 := Tryz.isAgg9
  z9 := Tryz.sizeOf9
  v9 := Tryz.zeroValue9
  t20 := Tryz.underlying20
  a20 := Tryz.isAgg20
  z20 := Tryz.sizeOf20
  v20 := Tryz.zeroValue20
  t37 := Tryz.underlying32
  a37 := Tryz.isAgg32
  z37 := Tryz.sizeOf32
  v37 := Tryz.zeroValue32
  t46 := Tryz.underlying127
  a46 := Tryz.isAgg127
  z46 := Tryz.sizeOf127
  v46 := Tryz.zeroValue127
  t51 := Tryz.underlying67
  a51 := Tryz.isAgg67
  z51 := Tryz.sizeOf67
  v51 := Tryz.zeroValue67
  t53 := Tryz.underlying126
  a53 := Tryz.isAgg126
  z53 := Tryz.sizeOf126
  v53 := Tryz.zeroValue126
  t70 := Tryz.underlying80
  a70 := Tryz.isAgg80
  z70 := Tryz.sizeOf80
  v70 := Tryz.zeroValue80
  t72 := Tryz.underlying82
  a72 := Tryz.isAgg82
  z72 := Tryz.sizeOf82
  v72 := Tryz.zeroValue82
  t75 := Tryz.underlying85
  a75 := Tryz.isAgg85
  z75 := Tryz.sizeOf85
  v75 := Tryz.zeroValue85
  t76 := Tryz.underlying86
  a76 := Tryz.isAgg86
  z76 := Tryz.sizeOf86
  v76 := Tryz.zeroValue86
  t109 := Tryz.underlying155
  a109 := Tryz.isAgg155
  z109 := Tryz.sizeOf155
  v109 := Tryz.zeroValue155
  t127 := Tryz.underlying119
  a127 := Tryz.isAgg119
  z127 := Tryz.sizeOf119
  v127 := Tryz.zeroValue119
  t146 := Tryz.underlying153
  a146 := Tryz.isAgg153
  z146 := Tryz.sizeOf153
  v146 := Tryz.zeroValue153
  t148 := Tryz.underlying171
  a148 := Tryz.isAgg171
  z148 := Tryz.sizeOf171
  v148 := Tryz.zeroValue171
  t164 := Tryz.underlying144
  a164 := Tryz.isAgg144
  z164 := Tryz.sizeOf144
  v164 := Tryz.zeroValue144 }
theorem Tryz.Builder_Extra_105 : Builder.Extra Tryz.prog Tryz.lays105_ren := {
  sizeBuilder := by kernel_rfl
  liesBuilder := by kernel_rfl
  t5 := Tryz.underlying5
  a5 := Tryz.isAgg5
  z5 := Tryz.sizeOf5
  v5 := Tryz.zeroValue5
  infoByte := by kernel_rfl
  cellsByte := by kernel_rfl
  sizeByte := by kernel_rfl
  neB5 := by decide }
open Go.RowKit Go.Lib in
theorem Tryz.strings_Repeat (s : ByteArray) (c : Nat) (w : World) (hc : c ≤ 9223372036854775807) (hlen : s.size * c ≤ 140737488355328) :
    Calls Tryz.prog 121 #[.string s, .int .i64 c] w fun e w' => e = .returned (.string ⟨(Lib.repeatL s.data.toList c).toArray⟩) ∧ Below w.heap.size w w' := Any.strings_Repeat Tryz.lays105 Tryz.Builder_Extra_105 s c w hc hlen
end Go.Proofs.YtpmgpdlminacaaaGreatDoor

/- The walks of limbsText and l02Text: a list of limbs as a decimal numeral, nine digits at a time. -/
namespace Go.Proofs.YtpmgpdlminacaaaGreatDoor
open Go.RowKit Go.Sort
set_option linter.unusedVariables false

/-- the table of powers of ten holds what its text says -/
def Tabs (w : World) : Prop := Lib.TabIs Tryz.prog w "internal/strconv.uint64pow10" .u64 Lib.pow10Tab
theorem Tabs.below {w w' : World} (h : Tabs w) (hb : Below w.heap.size w w') : Tabs w' := Lib.tabBelow_of_tabIs h w' hb
theorem below_grown (w : World) (k : Nat) (os : Array Obj) : Below w.heap.size w (grow (w.drewN k) os) :=
  ⟨rfl, rfl, rfl, by simp [grow], fun i hi => by show (w.heap ++ os)[i]? = _; rw [Array.getElem?_append_left hi]⟩
set_option maxHeartbeats 4000000 in
set_option maxRecDepth 20000 in
theorem limbsTextI (a : Option Addr) (n ca : Nat) (xs : List Nat) (w : World) (ha : Seg w a n ca xs) (hn : n ≤ 40) (htab : Tabs w) :
    Calls Tryz.prog 85 #[.slice a n ca] w fun e w' => e = .returned (.string (decBs (Num.nat xs))) ∧ Below w.heap.size w w' := by
  obtain rfl := ha.1
  have HM := hide (dec_short ha.2.2.2.1 hn)
  have HT := hide htab
  have HA := hide ha
  clear ha htab
  go_enter Tryz.func85, Tryz.ntmps85
  go_wp2
  go_loopw [0, 3, 4, 5, 6] (fun l t _ _ _ wr => ∃ (a : Option Addr) (ca : Nat) (ys : List Nat) (tb : ByteArray), l = .slice a ys.length ca ∧ t = .string tb ∧ ys.length ≤ 40 ∧ tb.size ≤ 400 ∧ Hid (Seg wr a ys.length ca ys) ∧ Hid (Below w.heap.size w wr) ∧ Hid (Lib.decDigits (Num.nat ys) ++ tb.data.toList = Lib.decDigits (Num.nat xs))) (fun _ t _ _ _ _ => 1000 - bLen t)
  case atStart => exact ⟨a, ca, xs, ⟨#[]⟩, rfl, rfl, hn, by decide, HA, hide (bl_refl w), hide (by simp)⟩
  case round =>
    obtain ⟨a, ca, ys, tb, rfl, rfl, hl, ht, hS, hB, hE⟩ := hrel
    go_wp2_with fail
    refine (shortI a _ ca 1000000000 ys _ hS.out (by omega) (by omega) (by omega)).mono ?_
    rintro e w1 ⟨qs, r, rfl, hD, ho, hb1⟩
    have hql := hD.1
    have hr := hD.2.2.1
    have HN : Hid (Num.nat ys = Num.nat qs * 1000000000 + r) := hide (by have := hD.2.2.2; rw [List.drop_zero, List.drop_zero] at this; exact this)
    have HQ := hide hD.2.1
    have HB1 := hide (bl_trans hB.out hb1)
    have HO := hide ho
    clear hD ho hb1 hB hS
    go_wp2_with fail
    refine (trimI _ _ _ qs _ _ HO.out).mono ?_
    rintro e w2 ⟨hw2, a', c', rfl, ho'⟩
    subst w2
    have HO2 := hide (ho' _ HO.out)
    clear ho'
    go_wp2_with fail
    refine (Tryz.strconv_Itoa r (by omega) (by omega) _ (HT.out.below HB1.out)).mono ?_
    rintro e w3 ⟨rfl, k3, os3, hw3⟩
    have hb3 : Below w1.heap.size w1 w3 := by rw [hw3]; exact below_grown _ _ _
    have HB3 := hide (bl_trans HB1.out hb3)
    have HS3 := hide (HO2.out.below hb3).seg
    have hqle := limbs_len_le HQ.out
    clear hw3 hb3 HO HO2 HB1
    obtain ⟨D, hD⟩ : ∃ D : ByteArray, D = ⟨(Lib.itoa (r : Int)).toArray⟩ := ⟨_, rfl⟩
    have hDl : D.data.toList = Lib.decDigits r := by rw [hD, Lib.itoa_nonneg]
    have hDs : D.size ≤ 9 := by rw [← bsize, hDl]; exact TxN.dec_len9 hr
    have hDp : 1 ≤ D.size := by rw [← bsize, hDl]; exact TxN.dec_pos r
    have HDL := hide hDl
    clear hDl
    rw [← hD]
    clear hD
    by_cases hz : Num.nat qs = 0
    · have HL : Hid ((Num.limbs (Num.nat qs)).length = 0) := hide (by rw [hz, Num.limbs_zero]; rfl)
      have HZ := hide hz
      clear hz
      have hL := HL.out
      go_wp2
      go_ret
      refine ⟨ret_str' ?_, HB3.out⟩
      have e1 := HN.out
      rw [HZ.out, Nat.zero_mul, Nat.zero_add] at e1
      have e2 := hE.out
      rw [e1, ← HDL.out] at e2
      simp only [decBs]
      rw [← e2]; simp
    · have HL : Hid (0 < (Num.limbs (Num.nat qs)).length) := hide (by
        refine List.length_pos_iff.2 fun e => hz (Num.limbs_eq_nil.1 e))
      have HZ := hide hz
      clear hz
      have hL := HL.out
      have hL' : ((((Num.limbs (Num.nat qs)).length : Nat) : Int) == 0) = false := by rw [beq_eq_false_iff_ne]; omega
      have e9 : (9 : Int) - (D.size : Int) = ((9 - D.size : Nat) : Int) := by omega
      go_wp2_with fail
      refine (Tryz.strings_Repeat _ (9 - D.size) _ (by omega) (by show 1 * (9 - D.size) ≤ _; omega)).mono ?_
      rintro e w4 ⟨rfl, hb4⟩
      have HB4 := hide (bl_trans HB3.out hb4)
      have HS4 := hide (HS3.out.below hb4)
      clear hb4 HB3 HS3
      obtain ⟨Z, hZ⟩ : ∃ Z : ByteArray, Z = ⟨(Lib.repeatL ({ data := #[48] } : ByteArray).data.toList (9 - D.size)).toArray⟩ := ⟨_, rfl⟩
      have hZl : Z.data.toList = List.replicate (9 - D.size) 48 := by rw [hZ]; exact TxN.rep_eq _
      have hZs : Z.size = 9 - D.size := by rw [← bsize, hZl]; simp
      rw [← hZ]
      have HE := hide (nine hE.out HN.out HZ.out hr HDL.out hZl)
      clear hZ hZl hE HN
      have HSZ : Hid (Z.size + D.size + tb.size ≤ 400) := hide (by
        have e1 := congrArg List.length HE.out
        rw [List.length_append, bsize, bsize_app, bsize_app] at e1
        have := HM.out
        omega)
      go_wp2
      exact ⟨⟨a', c', Num.limbs (Num.nat qs), Z ++ D ++ tb, rfl, rfl, by omega, by have := HSZ.out; rw [bsize_app, bsize_app]; omega, HS4, HB4, hide (by rw [Num.nat_limbs]; exact HE.out)⟩, by have := HSZ.out; simp only [bLen, bsize_app]; omega⟩
end Go.Proofs.YtpmgpdlminacaaaGreatDoor
