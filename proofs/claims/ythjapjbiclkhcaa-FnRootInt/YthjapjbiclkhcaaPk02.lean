/- My texts Make, Bits, in this order. -/
import Derived.Test.YthjapjbiclkhcaaPk01
import Derived.Shelf.Small.Bits
import Derived.Test.YthjapjbiclkhcaaChecked
import Derived.Lib.BitFns
/- The walks of what makes a number of a sign and limbs: l02Make, trimLimbs, bigOf; noughts at the end are gone, and nought has no sign. -/
namespace Go.Proofs.Ythjapjbiclkhcaa
open Go.RowKit
set_option linter.unusedVariables false

/-- a number of a sign and a size -/
def mk (neg : Bool) (m : Nat) : Int := if neg then -(m : Int) else m
theorem mk_lms (neg : Bool) (m : Nat) : lms (mk neg m) = Num.limbs m := by unfold mk lms; cases neg <;> simp
theorem mk_sgn (neg : Bool) (m : Nat) : sgn (mk neg m) = (neg && decide (0 < m)) := by
  unfold mk sgn; cases neg
  · simp
  · by_cases h : 0 < m
    · rw [decide_eq_true h]; simp; omega
    · obtain rfl : m = 0 := by omega
      simp
theorem mk_abs (neg : Bool) (m : Nat) : (mk neg m).natAbs = m := by unfold mk; cases neg <;> simp
theorem mk_self (z : Int) : mk (sgn z) z.natAbs = z := by
  unfold mk sgn
  by_cases h : z < 0
  · rw [decide_eq_true h, if_pos rfl]; omega
  · rw [decide_eq_false h, if_neg (by simp)]; omega
theorem nat_lms (z : Int) : Num.nat (lms z) = z.natAbs := Num.nat_limbs _
/-- the number z, read; and in memory of its own -/
def Is (W : World) (v : Value) (z : Int) : Prop := Raw W v (sgn z) (lms z)
def New (W : World) (base : Nat) (v : Value) (z : Int) : Prop := Got W base v (sgn z) (lms z)
theorem New.is {W : World} {base : Nat} {v : Value} {z : Int} (h : New W base v z) : Is W v z := Got.raw h
theorem Is.below {W W' : World} {v : Value} {z : Int} (h : Is W v z) (hb : Below W.heap.size W W') : Is W' v z := Raw.below h hb
theorem New.below {W W' : World} {base : Nat} {v : Value} {z : Int} (h : New W base v z) (hb : Below W.heap.size W W') : New W' base v z := Got.below h hb
theorem New.mono {W : World} {base base' : Nat} {v : Value} {z : Int} (h : New W base v z) (hb : base' ≤ base) : New W base' v z := Got.mono h hb
theorem Got.setCell {W : World} {base : Nat} {v : Value} {neg : Bool} {xs : List Nat} (h : Got W base v neg xs) {p : Addr} (hp : p.block < base) (u : Value) : Got (W.setCell p u) base v neg xs := by
  obtain ⟨a, cap, rfl, h⟩ := h; exact ⟨a, cap, rfl, h.setCell hp u⟩
theorem New.setCell {W : World} {base : Nat} {v : Value} {z : Int} (h : New W base v z) {p : Addr} (hp : p.block < base) (u : Value) : New (W.setCell p u) base v z := Got.setCell h hp u
theorem limbs_len_le {xs : List Nat} (hs : Num.Small xs) : (Num.limbs (Num.nat xs)).length ≤ xs.length := Num.limbs_len.2 (Num.nat_lt hs)

theorem apart_of {x y : Option Nat} {l1 h1 l2 h2 : Nat} (hx : ∀ k, x = some k → l1 ≤ k ∧ k < h1) (hy : ∀ k, y = some k → l2 ≤ k ∧ k < h2) (h : h1 ≤ l2 ∨ h2 ≤ l1) : x = none ∨ x ≠ y := by
  cases x with
  | none => exact .inl rfl
  | some k => refine .inr fun e => ?_; have a := hx k rfl; have b := hy k e.symm; omega
/-- a box of two cells stands behind a call -/
theorem box_keep {W w1 : World} {N : Nat} {c0 c1 : Value} (hb : Below W.heap.size W w1) (hlt : N < W.heap.size) (h0 : W.cell? ⟨N, 0, none⟩ = some c0) (h1 : W.cell? ⟨N, 1, none⟩ = some c1) (g0 : W.frozen? ⟨N, 0, none⟩ = false) (g1 : W.frozen? ⟨N, 1, none⟩ = false) :
    w1.cell? ⟨N, 0, none⟩ = some c0 ∧ w1.cell? ⟨N, 1, none⟩ = some c1 ∧ w1.frozen? ⟨N, 0, none⟩ = false ∧ w1.frozen? ⟨N, 1, none⟩ = false :=
  ⟨(hb.cell (p := ⟨N, 0, none⟩) hlt).trans h0, (hb.cell (p := ⟨N, 1, none⟩) hlt).trans h1, (hb.frozen (p := ⟨N, 0, none⟩) hlt).trans g0, (hb.frozen (p := ⟨N, 1, none⟩) hlt).trans g1⟩
/-- a number is stored in a box of the call's own -/
theorem fin_box {w w1 : World} {N base : Nat} {v x y : Value} {z : Int} (hn : New w1 base v z) (hN : N < base) (hwN : w.heap.size ≤ N) (hb : Below w.heap.size w w1) :
    New ((w1.setCell ⟨N, 0, none⟩ x).setCell ⟨N, 1, none⟩ y) w.heap.size v z ∧ Below w.heap.size w ((w1.setCell ⟨N, 0, none⟩ x).setCell ⟨N, 1, none⟩ y) :=
  ⟨((hn.setCell (p := ⟨N, 0, none⟩) hN x).setCell (p := ⟨N, 1, none⟩) hN y).mono (by omega), (hb.setCell (p := ⟨N, 0, none⟩) hwN x).setCell (p := ⟨N, 1, none⟩) hwN y⟩
set_option maxHeartbeats 1000000 in
theorem trimI (a : Option Addr) (n cap : Nat) (xs : List Nat) (base : Nat) (w : World) (ho : Own w base a n cap xs) :
    Calls Try.prog 89 #[.slice a n cap] w fun e w' => w' = w ∧ ∃ a' c', e = .returned (.slice a' (Num.limbs (Num.nat xs)).length c') ∧ ∀ W, Own W base a n cap xs → Own W base a' (Num.limbs (Num.nat xs)).length c' (Num.limbs (Num.nat xs)) := by
  obtain rfl := ho.len
  have hs := ho.seg
  have hcap := hs.2.1
  have hcm := hs.2.2.1
  have hcell := hs.2.2.2.2
  have HO := hide ho
  have HC := hide hcell
  clear hs ho hcell
  go_enter Try.func89, Try.ntmps89
  go_wp2
  go_loopw [3] (fun i wr => ∃ k : Nat, k ≤ xs.length ∧ i = .int .i64 k ∧ wr = w ∧ Hid (Num.nat (xs.drop k) = 0)) (fun i _ => (intOf i).toNat)
  case atStart => exact ⟨xs.length, Nat.le_refl _, rfl, rfl, hide (by rw [List.drop_eq_nil_of_le (Nat.le_refl _)]; rfl)⟩
  case round =>
    obtain ⟨k, hk, rfl, rfl, hz⟩ := hrel
    by_cases h0 : k = 0
    · subst h0
      have HN : Hid (Num.limbs (Num.nat xs) = []) := hide (by have := hz.out; rw [List.drop_zero] at this; rw [this, Num.limbs_zero])
      go_wp2
      go_ret
      rw [HN.out]
      exact ⟨rfl, none, 0, rfl, fun W _ => Own.nil _ _⟩
    · obtain ⟨j, rfl⟩ : ∃ j, k = j + 1 := ⟨k - 1, by omega⟩
      have hj : j < xs.length := by omega
      rcases HO.out.cases with ⟨rfl, h0, _, _⟩ | ⟨g, rfl, hg, hgl⟩
      · omega
      have hc := own_cell HO.out j hj
      by_cases hx : xs[j] = 0
      · have HZ : Hid (Num.nat (xs.drop j) = 0) := hide (by rw [Num.nat_drop xs j hj, hz.out, hx])
        rw [hx] at hc
        clear hz
        go_wp2
        exact ⟨⟨j, by omega, by go_num, trivial, HZ⟩, by simp [intOf]⟩
      · have hne : ((xs[j] : Int) != 0) = true := by rw [bne_iff_ne]; omega
        have ht := Num.limbs_of_trim HO.out.2 hk hz.out (fun i hi e => by cases e; exact hx)
        have HL : Hid ((Num.limbs (Num.nat xs)).length = j + 1) := hide (by rw [← ht, List.length_take]; omega)
        have HOX : Hid (∀ W, Own W base (some ⟨g, 0, none⟩) xs.length cap xs → Own W base (some ⟨g, 0, none⟩) (j + 1) cap (Num.limbs (Num.nat xs))) := hide (fun W h => by have := h.cut (j + 1) hk; rw [ht] at this; exact this)
        clear hz ht hx
        generalize xs[j] = x at *
        go_wp2
        go_ret
        rw [HL.out]
        exact ⟨rfl, _, _, rfl, HOX.out⟩

set_option maxHeartbeats 1000000 in
theorem bigOfI (neg : Bool) (a : Option Addr) (n cap : Nat) (xs : List Nat) (base : Nat) (w : World) (ho : Own w base a n cap xs) (hbase : base ≤ w.heap.size) :
    Calls Try.prog 67 #[.bool neg, .slice a n cap] w fun e w' => ∃ v, e = .returned v ∧ New w' base v (mk neg (Num.nat xs)) ∧ Below w.heap.size w w' := by
  unfold New Got
  rw [mk_lms, mk_sgn]
  have HO := hide ho
  have hcm := ho.seg.2.2.1
  have hcap := ho.seg.2.1
  have hll := limbs_len_le ho.2
  rw [ho.len] at hll
  clear ho
  go_enter Try.func67, Try.ntmps67
  go_wp2_with fail
  refine (trimI a n cap xs base _ (HO.out.below (bl_alloc (bl_refl w) _))).mono ?_
  rintro e w1 ⟨hw, a', c', rfl, ho'⟩
  subst w1
  have HO' := hide ho'
  have HP : Hid (decide (0 < Num.nat xs) = decide (0 < ((Num.limbs (Num.nat xs)).length : Int))) := hide (by
    by_cases h : Num.nat xs = 0
    · rw [h, Num.limbs_zero]; rfl
    · have : Num.limbs (Num.nat xs) ≠ [] := fun e => h (Num.limbs_eq_nil.1 e)
      have := List.length_pos_iff.2 this
      rw [decide_eq_true (by omega), decide_eq_true (by omega)])
  clear ho'
  cases neg
  · go_wp2
    refine bodyPost_ret (v := .agg #[.bool false, .slice a' (Num.limbs (Num.nat xs)).length c']) (by simp [results, Try.results67, go_sem, *]) rfl ?_
    exact ⟨_, rfl, ⟨a', c', rfl, HO'.out _ (HO.out.below (bl_alloc (bl_refl w) _))⟩, bl_alloc (bl_refl w) _⟩
  · go_wp2
    refine bodyPost_ret (v := .agg #[.bool (decide (0 < ((Num.limbs (Num.nat xs)).length : Int))), .slice a' (Num.limbs (Num.nat xs)).length c']) (by simp [results, Try.results67, go_sem, *]) rfl ?_
    refine ⟨_, rfl, ⟨a', c', ?_, HO'.out _ (HO.out.below (bl_alloc (bl_refl w) _))⟩, bl_alloc (bl_refl w) _⟩
    rw [HP.out]; rfl

set_option maxHeartbeats 2000000 in
set_option maxRecDepth 20000 in
theorem makeS (neg : Bool) (a : Option Addr) (n cap : Nat) (xs : List Nat) (w : World) (hs : Seg w a n cap xs) (hn : n ≤ 1048576) :
    Calls Try.prog 25 #[.bool neg, .slice a n cap] w fun e w' => ∃ v, e = .returned v ∧ New w' w.heap.size v (mk neg (Num.nat xs)) ∧ Below w.heap.size w w' := by
  obtain ⟨i0, hi, hz0, hz1, hz2⟩ := info_parts Try.info56
  unfold New Got
  rw [mk_lms, mk_sgn]
  obtain rfl := hs.1
  have hcap := hs.2.1
  have hcm := hs.2.2.1
  have HS := hide hs
  clear hs
  go_enter Try.func25, Try.ntmps25
  go_wp2
  go_loopw [5] (fun i wr => ∃ k : Nat, k ≤ xs.length ∧ i = .int .i64 k ∧ wr = w.alloc (Obj.cells #[Value.bool false, Value.slice none 0 0] 26) ∧ Hid (Num.nat (xs.drop k) = 0)) (fun i _ => (intOf i).toNat)
  case atStart => exact ⟨xs.length, Nat.le_refl _, rfl, rfl, hide (by rw [List.drop_eq_nil_of_le (Nat.le_refl _)]; rfl)⟩
  case round =>
    obtain ⟨k, hk, rfl, rfl, hz⟩ := hrel
    by_cases h0 : k = 0
    · subst h0
      have HN : Hid (Num.nat xs = 0) := hide (by have := hz.out; rw [List.drop_zero] at this; exact this)
      go_wp2
      refine bodyPost_ret (v := .agg #[.bool false, .slice none 0 0]) (by simp [results, Try.results25, go_sem, *]) rfl ?_
      rw [HN.out, Num.limbs_zero]
      exact ⟨_, rfl, ⟨none, 0, by simp, Own.nil _ _⟩, bl_alloc (bl_refl w) _⟩
    · obtain ⟨j, rfl⟩ : ∃ j, k = j + 1 := ⟨k - 1, by omega⟩
      have hj : j < xs.length := by omega
      rcases HS.out.2.2.2.2 with h0 | ⟨g, o, rfl, hg, hc⟩
      · omega
      have hcj : (w.alloc (Obj.cells #[Value.bool false, Value.slice none 0 0] 26)).cell? ⟨g, o + j, none⟩ = some (.int .u32 xs[j]) := ((bl_alloc (bl_refl w) _).cell (p := ⟨g, o + j, none⟩) hg).trans (hc j hj)
      have HC := hide hc
      clear hc
      by_cases hx : xs[j] = 0
      · have HZ : Hid (Num.nat (xs.drop j) = 0) := hide (by rw [Num.nat_drop xs j hj, hz.out, hx])
        rw [hx] at hcj
        clear hz
        go_wp2
        exact ⟨⟨j, by omega, by go_num, trivial, HZ⟩, by simp [intOf]⟩
      · have hne : ((xs[j] : Int) == 0) = false := by rw [beq_eq_false_iff_ne]; omega
        have ht := Num.limbs_of_trim HS.out.2.2.2.1 hk hz.out (fun i hi e => by cases e; exact hx)
        have HT := hide ht
        have HL : Hid ((Num.limbs (Num.nat xs)).length = j + 1) := hide (by rw [← ht, List.length_take]; omega)
        have HN : Hid (0 < Num.nat xs) := hide (by
          refine Nat.pos_of_ne_zero fun e => ?_
          have := HL.out
          rw [e, Num.limbs_zero] at this; simp at this)
        clear hz ht hx
        generalize xs[j] = x at *
        have hnews : ∀ j' u, (((xs.take (j + 1)).map lim)[j']? = some u) → ((w.alloc (Obj.cells #[Value.bool false, Value.slice none 0 0] 26)).alloc (Obj.cells #[] 56)).cell? ((⟨g, o, none⟩ : Addr).add j') = some u := by
          intro j' u hu
          have hj' : j' < (xs.take (j + 1)).length := by have := (List.getElem?_eq_some_iff.1 hu).1; simpa using this
          have hjx : j' < xs.length := by simp at hj'; omega
          have hu' : u = .int .u32 xs[j'] := by
            have := (List.getElem?_eq_some_iff.1 hu).2
            simp [lim] at this; exact this.symm
          rw [hu', Addr.add_lit]
          exact ((bl_alloc (bl_alloc (bl_refl w) _) _).cell (p := ⟨g, o + j', none⟩) hg).trans (HC.out j' hjx)
        have HNEWS := hide hnews
        clear hnews
        have hrow0 : ((w.alloc (Obj.cells #[Value.bool false, Value.slice none 0 0] 26)).alloc (Obj.cells #[] 56)).ownsRow (w.heap.size + 1) 56 1 (.slice (some ⟨w.heap.size + 1, 0, none⟩) 0 0) 0 [] := by
          have := World.ownsRow_lit (base := w.heap.size + 1) (e := 56) (size := 1) (w.alloc (Obj.cells #[Value.bool false, Value.slice none 0 0] 26)) #[] 0 (by simp) (by unfold maxLen; omega) rfl
          simpa using this
        have HROW := hide hrow0
        clear hrow0
        go_wp2_with (at_builtin; refine wpList_append_own _ rfl _ _ 24 rfl (w.heap.size + 1) 56 i0 (.int .u32 0) 1 4 Try.underlying24 hi hz0 hz1 hz2 rfl (by decide) _ 0 [] rfl HROW.out ⟨g, o, none⟩ (j + 1) cap ((xs.take (j + 1)).map lim) rfl (by simp; omega) HNEWS.out (one_lims _) (by unfold maxLen; omega) (by omega) (by simp) ?_; intro v' w1 hown' hgrow' _; have hgrow := (show ((w.alloc (Obj.cells #[Value.bool false, Value.slice none 0 0] 26)).alloc (Obj.cells #[] 56)).grownBy w1 (some (w.heap.size + 1)) from hgrow'); clear hgrow'; obtain ⟨a', c', rfl⟩ := row_val hown'; have k0 : w1.cell? ⟨w.heap.size, 0, none⟩ = some (.bool false) := hgrow.cell (by go_simp) (by simp); have k1 : w1.cell? ⟨w.heap.size, 1, none⟩ = some (.slice none 0 0) := hgrow.cell (by go_simp) (by simp); have f0 : w1.frozen? ⟨w.heap.size, 0, none⟩ = false := (grown_frozen hgrow (by simp only [World.size_alloc]; omega) (by simp)).trans (by go_simp); have f1 : w1.frozen? ⟨w.heap.size, 1, none⟩ = false := (grown_frozen hgrow (by simp only [World.size_alloc]; omega) (by simp)).trans (by go_simp); have HG := hide hgrow; have HO := hide hown'; clear hgrow hown')
        refine bodyPost_ret (v := .agg #[.bool neg, .slice a' (j + 1) c']) (by simp [results, Try.results25, go_sem, *]) rfl ?_
        refine ⟨_, rfl, ⟨a', c', ?_, ?_⟩, ?_⟩
        · rw [decide_eq_true HN.out, HL.out, Bool.and_true]
        · have ho : Own w1 (w.heap.size + 1) a' (j + 1) c' (xs.take (j + 1)) := ⟨by have := HO.out; rw [Nat.zero_add, List.nil_append] at this; exact this, Num.small_take HS.out.2.2.2.1 _⟩
          rw [HL.out, ← HT.out]
          exact ((ho.setCell (p := ⟨w.heap.size, 0, none⟩) (by simp) _).setCell (p := ⟨w.heap.size, 1, none⟩) (by simp) _).mono (by omega)
        · exact (((bl_alloc (bl_alloc (bl_refl w) _) _).grown HG.out (by simp only [World.size_alloc]; omega) (fun k e => by cases e; omega)).setCell (p := ⟨w.heap.size, 0, none⟩) (Nat.le_refl _) _).setCell (p := ⟨w.heap.size, 1, none⟩) (Nat.le_refl _) _
end Go.Proofs.Ythjapjbiclkhcaa

/- The library's contracts of math/bits, laid at this seat's numbers by the kit's lay-shelf and lay-plain: each is one application of the library's own theorem. -/
namespace Go.Proofs.Ythjapjbiclkhcaa
open Go.Shelf
set_option linter.unusedVariables false

def Try.lays128_ren : Go.Shelf.Ren := ⟨fun | 128 => 65 | n => n, fun | 51 => 56 | 3 => 3 | 4 => 4 | 46 => 60 | 5 => 5 | 9 => 9 | n => n, fun | n => n⟩
set_option maxRecDepth 100000 in
theorem Try.lays128 : Go.Proofs.Lays.n128 Try.prog Try.lays128_ren := {
  mixed := by kernel_rfl
  f128 := Try.func65.trans (congrArg some (by kernel_rfl))
  t3 := Try.underlying3
  a3 := Try.isAgg3
  z3 := Try.sizeOf3
  v3 := Try.zeroValue3
  t4 := Try.underlying4
  a4 := Try.isAgg4
  z4 := Try.sizeOf4
  v4 := Try.zeroValue4
  t5 := Try.underlying5
  a5 := Try.isAgg5
  z5 := Try.sizeOf5
  v5 := Try.zeroValue5
  t9 := Try.underlying9
  a9 := Try.isAgg9
  z9 := Try.sizeOf9
  v9 := Try.zeroValue9
  t46 := Try.underlying60
  a46 := Try.isAgg60
  z46 := Try.sizeOf60
  v46 := Try.zeroValue60
  t51 := Try.underlying56
  a51 := Try.isAgg56
  z51 := Try.sizeOf56
  v51 := Try.zeroValue56 }
theorem Try.bits_Len32 (x : Int) (w : World) (h0 : 0 ≤ x) (h1 : x ≤ 4294967295) :
    Calls Try.prog 65 #[.int .u32 x] w fun e w' => e = .returned (.int .i64 (Lib.bitLen x.toNat)) ∧ w' = w := Any.bits_Len32 Try.lays128 x w h0 h1
def Try.lays125_ren : Go.Shelf.Ren := ⟨fun | 125 => 64 | 128 => 65 | 129 => 88 | n => n, fun | 46 => 60 | 3 => 3 | 51 => 56 | 53 => 59 | 4 => 4 | 5 => 5 | 9 => 9 | n => n, fun | n => n⟩
set_option maxRecDepth 100000 in
theorem Try.lays125 : Go.Proofs.Lays.n125 Try.prog Try.lays125_ren := {
  mixed := by kernel_rfl
  f125 := Try.func64.trans (congrArg some (by kernel_rfl))
  f128 := Try.func65.trans (congrArg some (by kernel_rfl))
  f129 := Try.func88.trans (congrArg some (by kernel_rfl))
  t3 := Try.underlying3
  a3 := Try.isAgg3
  z3 := Try.sizeOf3
  v3 := Try.zeroValue3
  t4 := Try.underlying4
  a4 := Try.isAgg4
  z4 := Try.sizeOf4
  v4 := Try.zeroValue4
  t5 := Try.underlying5
  a5 := Try.isAgg5
  z5 := Try.sizeOf5
  v5 := Try.zeroValue5
  t9 := Try.underlying9
  a9 := Try.isAgg9
  z9 := Try.sizeOf9
  v9 := Try.zeroValue9
  t46 := Try.underlying60
  a46 := Try.isAgg60
  z46 := Try.sizeOf60
  v46 := Try.zeroValue60
  t51 := Try.underlying56
  a51 := Try.isAgg56
  z51 := Try.sizeOf56
  v51 := Try.zeroValue56
  t53 := Try.underlying59
  a53 := Try.isAgg59
  z53 := Try.sizeOf59
  v53 := Try.zeroValue59 }
theorem Try.bits_Len (x : Int) (w : World) (h0 : 0 ≤ x) (h1 : x ≤ 18446744073709551615) :
    Calls Try.prog 64 #[.int .u64 x] w fun e w' => e = .returned (.int .i64 (Lib.bitLen x.toNat)) ∧ w' = w := Any.bits_Len Try.lays125 x w h0 h1
def Try.lays133_ren : Go.Shelf.Ren := ⟨fun | 133 => 99 | 128 => 65 | n => n, fun | 51 => 56 | 3 => 3 | 4 => 4 | 46 => 60 | 5 => 5 | 9 => 9 | n => n, fun | n => n⟩
set_option maxRecDepth 100000 in
theorem Try.lays133 : Go.Proofs.Lays.n133 Try.prog Try.lays133_ren := {
  mixed := by kernel_rfl
  f128 := Try.func65.trans (congrArg some (by kernel_rfl))
  f133 := Try.func99.trans (congrArg some (by kernel_rfl))
  t3 := Try.underlying3
  a3 := Try.isAgg3
  z3 := Try.sizeOf3
  v3 := Try.zeroValue3
  t4 := Try.underlying4
  a4 := Try.isAgg4
  z4 := Try.sizeOf4
  v4 := Try.zeroValue4
  t5 := Try.underlying5
  a5 := Try.isAgg5
  z5 := Try.sizeOf5
  v5 := Try.zeroValue5
  t9 := Try.underlying9
  a9 := Try.isAgg9
  z9 := Try.sizeOf9
  v9 := Try.zeroValue9
  t46 := Try.underlying60
  a46 := Try.isAgg60
  z46 := Try.sizeOf60
  v46 := Try.zeroValue60
  t51 := Try.underlying56
  a51 := Try.isAgg56
  z51 := Try.sizeOf56
  v51 := Try.zeroValue56 }
theorem Try.bits_LeadingZeros32 (x : Int) (w : World) (h0 : 0 ≤ x) (h1 : x ≤ 4294967295) :
    Calls Try.prog 99 #[.int .u32 x] w fun e w' => e = .returned (.int .i64 (32 - (Lib.bitLen x.toNat : Int))) ∧ w' = w := Any.bits_LeadingZeros32 Try.lays133 x w h0 h1
def Try.lays129_ren : Go.Shelf.Ren := ⟨fun | 129 => 88 | n => n, fun | 53 => 59 | 3 => 3 | 4 => 4 | 46 => 60 | 5 => 5 | 9 => 9 | n => n, fun | n => n⟩
set_option maxRecDepth 100000 in
theorem Try.lays129 : Go.Proofs.Lays.n129 Try.prog Try.lays129_ren := {
  mixed := by kernel_rfl
  f129 := Try.func88.trans (congrArg some (by kernel_rfl))
  t3 := Try.underlying3
  a3 := Try.isAgg3
  z3 := Try.sizeOf3
  v3 := Try.zeroValue3
  t4 := Try.underlying4
  a4 := Try.isAgg4
  z4 := Try.sizeOf4
  v4 := Try.zeroValue4
  t5 := Try.underlying5
  a5 := Try.isAgg5
  z5 := Try.sizeOf5
  v5 := Try.zeroValue5
  t9 := Try.underlying9
  a9 := Try.isAgg9
  z9 := Try.sizeOf9
  v9 := Try.zeroValue9
  t46 := Try.underlying60
  a46 := Try.isAgg60
  z46 := Try.sizeOf60
  v46 := Try.zeroValue60
  t53 := Try.underlying59
  a53 := Try.isAgg59
  z53 := Try.sizeOf59
  v53 := Try.zeroValue59 }
theorem Try.bits_Len64 (x : Int) (w : World) (h0 : 0 ≤ x) (h1 : x ≤ 18446744073709551615) :
    Calls Try.prog 88 #[.int .u64 x] w fun e w' => e = .returned (.int .i64 (Lib.bitLen x.toNat)) ∧ w' = w := Any.bits_Len64 Try.lays129 x w h0 h1

end Go.Proofs.Ythjapjbiclkhcaa
