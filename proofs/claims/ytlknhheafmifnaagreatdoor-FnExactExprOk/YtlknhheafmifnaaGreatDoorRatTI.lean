/- The walks of isWhole and the program's RatText: a fraction's numeral, or two with a stroke between. -/
import Derived.Test.YtlknhheafmifnaaGreatDoorPk12
import Derived.Test.YtlknhheafmifnaaGreatDoorPk17
import Derived.Test.YtlknhheafmifnaaGreatDoorPk15
namespace Go.Proofs.YtlknhheafmifnaaGreatDoor
open Go.RowKit Go.Sort
set_option linter.unusedVariables false

/-- the text of a right fraction, else nothing -/
def ratT (n : Bool) (xs : List Nat) (m : Bool) (ys : List Nat) : ByteArray :=
  if ratB n xs m ys then (if mk m (Num.nat ys) = 1 then itB (mk n (Num.nat xs)) else itB (mk n (Num.nat xs)) ++ ⟨#[47]⟩ ++ itB (mk m (Num.nat ys))) else ⟨#[]⟩
theorem rat_nums {n : Bool} {xs : List Nat} {m : Bool} {ys : List Nat} (h1 : Num.Small xs) (h2 : Num.Small ys) (h : ratB n xs m ys = true) :
    ∃ x y : Int, n = sgn x ∧ xs = lms x ∧ m = sgn y ∧ ys = lms y ∧ 0 < y ∧ okB (sgn x) (lms x) = true ∧ okB (sgn y) (lms y) = true := by
  simp only [ratB, Bool.and_eq_true, decide_eq_true_eq] at h
  obtain ⟨⟨ha, hb⟩, hc, _⟩ := h
  obtain ⟨x, rfl, rfl, _⟩ := ok_num h1 ha
  obtain ⟨y, rfl, rfl, _⟩ := ok_num h2 hb
  rw [nat_lms, mk_self] at hc
  exact ⟨x, y, rfl, rfl, rfl, rfl, hc, ha, hb⟩
theorem ratT_one {x y : Int} (h : ratB (sgn x) (lms x) (sgn y) (lms y) = true) (hy : y = 1) : ratT (sgn x) (lms x) (sgn y) (lms y) = itB x := by
  unfold ratT; rw [if_pos h, nat_lms, nat_lms, mk_self, mk_self, if_pos hy]
theorem ratT_two {x y : Int} (h : ratB (sgn x) (lms x) (sgn y) (lms y) = true) (hy : y ≠ 1) : ratT (sgn x) (lms x) (sgn y) (lms y) = itB x ++ ⟨#[47]⟩ ++ itB y := by
  unfold ratT; rw [if_pos h, nat_lms, nat_lms, mk_self, mk_self, if_neg hy]
theorem it_size {z : Int} (h : (lms z).length ≤ 40) : (itB z).size ≤ 401 := by
  have := dec_short (lms_small z) h
  rw [nat_lms] at this
  rw [← bsize]
  cases hg : sgn z with
  | true => rw [it_neg hg, List.length_cons]; omega
  | false => rw [it_pos hg]; omega
theorem lms_is1 (y : Int) (hy : 0 < y) : decide (y = 1) = (decide ((lms y).length = 1) && decide ((lms y).getD 0 0 = 1)) := by
  have hn := nat_lms y
  by_cases h1 : (lms y).length = 1
  · obtain ⟨q, hq⟩ : ∃ q, lms y = [q] := List.length_eq_one_iff.1 h1
    rw [hq] at hn ⊢
    simp only [Num.nat] at hn
    rw [Bool.eq_iff_iff]; simp; omega
  · rw [decide_eq_false h1, Bool.false_and, decide_eq_false_iff_not]
    intro e
    subst e
    exact h1 (by rw [lms_one (by rfl)]; rfl)

set_option maxHeartbeats 1000000 in
set_option maxRecDepth 20000 in
theorem isWholeI (y : Int) (n : Bool) (xs : List Nat) (m : Bool) (ys : List Nat) (a : Option Addr) (c : Nat) (b : Option Addr) (d : Nat) (w : World) (s1 : Seg w a xs.length c xs) (s2 : Seg w b ys.length d ys) (e1 : m = sgn y) (e2 : ys = lms y) :
    Calls Tryz.prog 62 #[(.agg #[.bool n, .slice a xs.length c, .bool m, .slice b ys.length d])] w fun e w' => e = .returned (.bool (decide (y = 1))) ∧ Below w.heap.size w w' := by
  subst e1 e2
  have H1 := hide s1
  have H2 := hide s2
  clear s1 s2
  have k0 : (w.alloc (Obj.cells #[Value.bool n, Value.slice a xs.length c, Value.bool (sgn y), Value.slice b (lms y).length d] 34)).cell? ⟨w.heap.size, 0, none⟩ = some (Value.bool n) := by go_simp
  have k1 : (w.alloc (Obj.cells #[Value.bool n, Value.slice a xs.length c, Value.bool (sgn y), Value.slice b (lms y).length d] 34)).cell? ⟨w.heap.size, 1, none⟩ = some (Value.slice a xs.length c) := by go_simp
  have k2 : (w.alloc (Obj.cells #[Value.bool n, Value.slice a xs.length c, Value.bool (sgn y), Value.slice b (lms y).length d] 34)).cell? ⟨w.heap.size, 2, none⟩ = some (Value.bool (sgn y)) := by go_simp
  have k3 : (w.alloc (Obj.cells #[Value.bool n, Value.slice a xs.length c, Value.bool (sgn y), Value.slice b (lms y).length d] 34)).cell? ⟨w.heap.size, 3, none⟩ = some (Value.slice b (lms y).length d) := by go_simp
  have z1 : w.heap.size < (w.alloc (Obj.cells #[Value.bool n, Value.slice a xs.length c, Value.bool (sgn y), Value.slice b (lms y).length d] 34)).heap.size := by simp only [World.size_alloc]; omega
  have HB := hide (bl_alloc (bl_refl w) (Obj.cells #[Value.bool n, Value.slice a xs.length c, Value.bool (sgn y), Value.slice b (lms y).length d] 34))
  replace H1 := hide (H1.out.below HB.out)
  replace H2 := hide (H2.out.below HB.out)
  go_enter Tryz.func62, Tryz.ntmps62
  go_wp2_with fail
  generalize (w.alloc (Obj.cells #[Value.bool n, Value.slice a xs.length c, Value.bool (sgn y), Value.slice b (lms y).length d] 34)) = W0 at *
  refine (isOneI _ y _ ⟨b, d, rfl, H2.out⟩).mono ?_
  rintro e w1 ⟨rfl, hb1⟩
  replace HB := hide (bl_trans HB.out hb1)
  clear hb1
  go_wp2
  go_ret
  exact ⟨rfl, HB.out⟩

set_option maxHeartbeats 4000000 in
set_option maxRecDepth 20000 in
theorem ratTextI (n : Bool) (xs : List Nat) (m : Bool) (ys : List Nat) (a : Option Addr) (c : Nat) (b : Option Addr) (d : Nat) (w : World) (s1 : Seg w a xs.length c xs) (s2 : Seg w b ys.length d ys) (htab : Tabs w) :
    Calls Tryz.prog 47 #[(.agg #[.bool n, .slice a xs.length c, .bool m, .slice b ys.length d])] w fun e w' => e = .returned (.string (ratT n xs m ys)) ∧ Below w.heap.size w w' := by
  have hsx := s1.2.2.2.1
  have hsy := s2.2.2.2.1
  have H1 := hide s1
  have H2 := hide s2
  clear s1 s2
  have k0 : (w.alloc (Obj.cells #[Value.bool n, Value.slice a xs.length c, Value.bool m, Value.slice b ys.length d] 34)).cell? ⟨w.heap.size, 0, none⟩ = some (Value.bool n) := by go_simp
  have k1 : (w.alloc (Obj.cells #[Value.bool n, Value.slice a xs.length c, Value.bool m, Value.slice b ys.length d] 34)).cell? ⟨w.heap.size, 1, none⟩ = some (Value.slice a xs.length c) := by go_simp
  have k2 : (w.alloc (Obj.cells #[Value.bool n, Value.slice a xs.length c, Value.bool m, Value.slice b ys.length d] 34)).cell? ⟨w.heap.size, 2, none⟩ = some (Value.bool m) := by go_simp
  have k3 : (w.alloc (Obj.cells #[Value.bool n, Value.slice a xs.length c, Value.bool m, Value.slice b ys.length d] 34)).cell? ⟨w.heap.size, 3, none⟩ = some (Value.slice b ys.length d) := by go_simp
  have z1 : w.heap.size < (w.alloc (Obj.cells #[Value.bool n, Value.slice a xs.length c, Value.bool m, Value.slice b ys.length d] 34)).heap.size := by simp only [World.size_alloc]; omega
  have HB := hide (bl_alloc (bl_refl w) (Obj.cells #[Value.bool n, Value.slice a xs.length c, Value.bool m, Value.slice b ys.length d] 34))
  replace H1 := hide (H1.out.below HB.out)
  replace H2 := hide (H2.out.below HB.out)
  have HT := hide (htab.below HB.out)
  clear htab
  go_enter Tryz.func47, Tryz.ntmps47
  go_wp2_with fail
  generalize (w.alloc (Obj.cells #[Value.bool n, Value.slice a xs.length c, Value.bool m, Value.slice b ys.length d] 34)) = W0 at *
  refine (rightI n xs m ys a c b d _ H1.out H2.out).mono ?_
  rintro e w1 ⟨rfl, hb1⟩
  replace k0 := (hb1.cell (p := ⟨w.heap.size, 0, none⟩) z1).trans k0
  replace k1 := (hb1.cell (p := ⟨w.heap.size, 1, none⟩) z1).trans k1
  replace k2 := (hb1.cell (p := ⟨w.heap.size, 2, none⟩) z1).trans k2
  replace k3 := (hb1.cell (p := ⟨w.heap.size, 3, none⟩) z1).trans k3
  replace z1 := Nat.lt_of_lt_of_le z1 hb1.size
  replace H1 := hide (H1.out.below hb1)
  replace H2 := hide (H2.out.below hb1)
  replace HB := hide (bl_trans HB.out hb1)
  replace HT := hide (HT.out.below hb1)
  clear hb1
  cases ho : ratB n xs m ys with
  | false =>
    have HR : Hid (ratT n xs m ys = ⟨#[]⟩) := hide (by rw [ratT, ho]; rfl)
    go_wp2
    go_ret
    exact ⟨by rw [HR.out]; rfl, HB.out⟩
  | true =>
    obtain ⟨x, y, rfl, rfl, rfl, rfl, hy0, ox, oy⟩ := rat_nums hsx hsy ho
    have HX := hide (intT_num x ox)
    have HY := hide (intT_num y oy)
    have hlx := ok_len ox
    have hly := ok_len oy
    clear hsx hsy
    go_wp2_with fail
    refine (isWholeI y (sgn x) (lms x) (sgn y) (lms y) a c b d _ H1.out H2.out rfl rfl).mono ?_
    rintro e W4 ⟨rfl, hb4⟩
    replace k0 := (hb4.cell (p := ⟨w.heap.size, 0, none⟩) z1).trans k0
    replace k1 := (hb4.cell (p := ⟨w.heap.size, 1, none⟩) z1).trans k1
    replace k2 := (hb4.cell (p := ⟨w.heap.size, 2, none⟩) z1).trans k2
    replace k3 := (hb4.cell (p := ⟨w.heap.size, 3, none⟩) z1).trans k3
    replace z1 := Nat.lt_of_lt_of_le z1 hb4.size
    replace H1 := hide (H1.out.below hb4)
    replace H2 := hide (H2.out.below hb4)
    replace HB := hide (bl_trans HB.out hb4)
    replace HT := hide (HT.out.below hb4)
    clear hb4
    by_cases hy : y = 1
    · have HR := hide (ratT_one ho hy)
      rw [decide_eq_true hy]
      clear hy
      go_wp2_with fail
      refine (intTextI _ (sgn x) (lms x) _ ⟨a, c, rfl, H1.out⟩ HT.out).mono ?_
      rw [HX.out]
      rintro e w5 ⟨rfl, hb5⟩
      replace HB := hide (bl_trans HB.out hb5)
      clear hb5
      go_wp2
      go_ret
      exact ⟨by rw [HR.out]; rfl, HB.out⟩
    · have HR := hide (ratT_two ho hy)
      rw [decide_eq_false hy]
      have hxs := it_size hlx
      have hys := it_size hly
      have hs1 : ¬ 9223372036854775807 < (itB x).size + 1 := by omega
      have hs2 : ¬ 9223372036854775807 < (itB x).size + 1 + (itB y).size := by omega
      clear hy
      go_wp2_with fail
      go_region_held3 (fun w' => w'.cell? ⟨w.heap.size, 0, none⟩ = some (Value.bool (sgn x)) ∧ w'.cell? ⟨w.heap.size, 1, none⟩ = some (Value.slice a (lms x).length c) ∧ w'.cell? ⟨w.heap.size, 2, none⟩ = some (Value.bool (sgn y)) ∧ w'.cell? ⟨w.heap.size, 3, none⟩ = some (Value.slice b (lms y).length d))
        (first
          | exact ⟨(by (try rw [World.cell?_drew]); first | with_reducible assumption), (by (try rw [World.cell?_drew]); first | with_reducible assumption), (by (try rw [World.cell?_drew]); first | with_reducible assumption), (by (try rw [World.cell?_drew]); first | with_reducible assumption)⟩)
        (first
          | (go_at_call_of 63 (Value.agg #[Value.bool (sgn x), Value.slice a (lms x).length c]); refine (intTextI _ (sgn x) (lms x) _ ⟨a, c, rfl, H1.out.below (bl_refl W4).drew⟩ (HT.out.below (bl_refl W4).drew)).mono ?_; rw [HX.out]; rintro e w5 ⟨rfl, hb5r⟩; have hb5 : Below W4.heap.size W4 w5 := (bl_refl W4).drew.trans hb5r; have y5 := hb5.size; have k0 := (hb5r.cell (p := ⟨w.heap.size, 0, none⟩) (by dsimp only; rw [World.size_drew]; omega)).trans k0; have k1 := (hb5r.cell (p := ⟨w.heap.size, 1, none⟩) (by dsimp only; rw [World.size_drew]; omega)).trans k1; have k2 := (hb5r.cell (p := ⟨w.heap.size, 2, none⟩) (by dsimp only; rw [World.size_drew]; omega)).trans k2; have k3 := (hb5r.cell (p := ⟨w.heap.size, 3, none⟩) (by dsimp only; rw [World.size_drew]; omega)).trans k3)
          | (go_at_call_of 63 (Value.agg #[Value.bool (sgn y), Value.slice b (lms y).length d]); refine (intTextI _ (sgn y) (lms y) _ ⟨b, d, rfl, H2.out.below hb5⟩ (HT.out.below hb5)).mono ?_; rw [HY.out]; rintro e w6 ⟨rfl, hb6r⟩; have hb6 : Below W4.heap.size W4 w6 := bl_trans hb5 hb6r; have y6 := hb6.size; have k0 := (hb6r.cell (p := ⟨w.heap.size, 0, none⟩) (by dsimp only; omega)).trans k0; have k1 := (hb6r.cell (p := ⟨w.heap.size, 1, none⟩) (by dsimp only; omega)).trans k1; have k2 := (hb6r.cell (p := ⟨w.heap.size, 2, none⟩) (by dsimp only; omega)).trans k2; have k3 := (hb6r.cell (p := ⟨w.heap.size, 3, none⟩) (by dsimp only; omega)).trans k3))
      have HB2 := hide (bl_trans HB.out hb6)
      go_wp2
      go_ret
      exact ⟨by rw [HR.out]; rfl, HB2.out⟩

end Go.Proofs.YtlknhheafmifnaaGreatDoor
