/- The walks of l03Whole and the specification's RatText. -/
import Derived.Test.YtlknhheafmifnaaGreatDoorRatTI
import Derived.Test.YtlknhheafmifnaaGreatDoorTxS
import Derived.Test.YtlknhheafmifnaaGreatDoorPk17
namespace Go.Proofs.YtlknhheafmifnaaGreatDoor
open Go.RowKit Go.Sort
set_option linter.unusedVariables false

set_option maxHeartbeats 1000000 in
set_option maxRecDepth 20000 in
theorem wholeS (y : Int) (n : Bool) (xs : List Nat) (m : Bool) (ys : List Nat) (a : Option Addr) (c : Nat) (b : Option Addr) (d : Nat) (w : World) (s1 : Seg w a xs.length c xs) (s2 : Seg w b ys.length d ys) (hy : 0 < y) (e2 : ys = lms y) :
    Calls Tryz.prog 54 #[(.agg #[.bool n, .slice a xs.length c, .bool m, .slice b ys.length d])] w fun e w' => e = .returned (.bool (decide (y = 1))) ∧ Below w.heap.size w w' := by
  have hcap := s2.2.1
  have hcm := s2.2.2.1
  have HD := hide (lms_is1 y hy)
  rw [← e2] at HD
  clear e2
  by_cases h1 : ys.length = 1
  · obtain ⟨g, o, rfl, hg, hc⟩ : ∃ g o, b = some ⟨g, o, none⟩ ∧ g < w.heap.size ∧ w.cell? ⟨g, o, none⟩ = some (.int .u32 (ys.getD 0 0)) := by
      rcases s2.2.2.2.2 with h | ⟨g, o, ha, hg, hc⟩
      · omega
      · refine ⟨g, o, ha, hg, ?_⟩
        have := hc 0 (by omega)
        rw [Nat.add_zero] at this
        rw [this]; simp [List.getD, h1]
    have HD2 : Hid (decide (y = 1) = decide (ys.getD 0 0 = 1)) := hide (by rw [HD.out, decide_eq_true h1, Bool.true_and])
    generalize ys.getD 0 0 = q at *
    have h1' : (((ys.length : Nat) : Int) == 1) = true := by rw [beq_iff_eq]; omega
    have H1 := hide s1
    have H2 := hide s2
    clear s1 s2
    have k0 : (w.alloc (Obj.cells #[Value.bool n, Value.slice a xs.length c, Value.bool m, Value.slice (some ⟨g, o, none⟩) ys.length d] 34)).cell? ⟨w.heap.size, 0, none⟩ = some (Value.bool n) := by go_simp
    have k1 : (w.alloc (Obj.cells #[Value.bool n, Value.slice a xs.length c, Value.bool m, Value.slice (some ⟨g, o, none⟩) ys.length d] 34)).cell? ⟨w.heap.size, 1, none⟩ = some (Value.slice a xs.length c) := by go_simp
    have k2 : (w.alloc (Obj.cells #[Value.bool n, Value.slice a xs.length c, Value.bool m, Value.slice (some ⟨g, o, none⟩) ys.length d] 34)).cell? ⟨w.heap.size, 2, none⟩ = some (Value.bool m) := by go_simp
    have k3 : (w.alloc (Obj.cells #[Value.bool n, Value.slice a xs.length c, Value.bool m, Value.slice (some ⟨g, o, none⟩) ys.length d] 34)).cell? ⟨w.heap.size, 3, none⟩ = some (Value.slice (some ⟨g, o, none⟩) ys.length d) := by go_simp
    have z1 : w.heap.size < (w.alloc (Obj.cells #[Value.bool n, Value.slice a xs.length c, Value.bool m, Value.slice (some ⟨g, o, none⟩) ys.length d] 34)).heap.size := by simp only [World.size_alloc]; omega
    have HB := hide (bl_alloc (bl_refl w) (Obj.cells #[Value.bool n, Value.slice a xs.length c, Value.bool m, Value.slice (some ⟨g, o, none⟩) ys.length d] 34))
    replace H1 := hide (H1.out.below HB.out)
    replace H2 := hide (H2.out.below HB.out)
    go_enter Tryz.func54, Tryz.ntmps54
    have hcw := (HB.out.cell (p := ⟨g, o, none⟩) hg).trans hc
    rw [h1] at *
    go_wp2
    go_ret
    refine ⟨ret_bool ?_, bl_alloc (bl_refl w) _⟩
    rw [HD2.out, Bool.eq_iff_iff]; simp; omega
  · have HD2 : Hid (decide (y = 1) = false) := hide (by rw [HD.out, decide_eq_false h1, Bool.false_and])
    have h1' : (((ys.length : Nat) : Int) == 1) = false := by rw [beq_eq_false_iff_ne]; omega
    have H1 := hide s1
    have H2 := hide s2
    clear s1 s2
    have k0 : (w.alloc (Obj.cells #[Value.bool n, Value.slice a xs.length c, Value.bool m, Value.slice b ys.length d] 34)).cell? ⟨w.heap.size, 0, none⟩ = some (Value.bool n) := by go_simp
    have k1 : (w.alloc (Obj.cells #[Value.bool n, Value.slice a xs.length c, Value.bool m, Value.slice b ys.length d] 34)).cell? ⟨w.heap.size, 1, none⟩ = some (Value.slice a xs.length c) := by go_simp
    have k2 : (w.alloc (Obj.cells #[Value.bool n, Value.slice a xs.length c, Value.bool m, Value.slice b ys.length d] 34)).cell? ⟨w.heap.size, 2, none⟩ = some (Value.bool m) := by go_simp
    have k3 : (w.alloc (Obj.cells #[Value.bool n, Value.slice a xs.length c, Value.bool m, Value.slice b ys.length d] 34)).cell? ⟨w.heap.size, 3, none⟩ = some (Value.slice b ys.length d) := by go_simp
    have z1 : w.heap.size < (w.alloc (Obj.cells #[Value.bool n, Value.slice a xs.length c, Value.bool m, Value.slice b ys.length d] 34)).heap.size := by simp only [World.size_alloc]; omega
    have HB := hide (bl_alloc (bl_refl w) (Obj.cells #[Value.bool n, Value.slice a xs.length c, Value.bool m, Value.slice b ys.length d] 34))
    replace H1 := hide (H1.out.below HB.out)
    replace H2 := hide (H2.out.below HB.out)
    go_enter Tryz.func54, Tryz.ntmps54
    go_wp2
    go_ret
    exact ⟨ret_bool HD2.out.symm, bl_alloc (bl_refl w) _⟩

set_option maxHeartbeats 4000000 in
set_option maxRecDepth 20000 in
theorem ratTextS (n : Bool) (xs : List Nat) (m : Bool) (ys : List Nat) (a : Option Addr) (c : Nat) (b : Option Addr) (d : Nat) (w : World) (s1 : Seg w a xs.length c xs) (s2 : Seg w b ys.length d ys) :
    Calls Tryz.prog 40 #[(.agg #[.bool n, .slice a xs.length c, .bool m, .slice b ys.length d])] w fun e w' => e = .returned (.string (ratT n xs m ys)) ∧ Below w.heap.size w w' := by
  have hsx := s1.2.2.2.1
  have hsy := s2.2.2.2.1
  have H1 := hide s1
  have H2 := hide s2
  clear s1 s2
  have k0 : (w.alloc (Obj.cells #[Value.bool n, Value.slice a xs.length c, Value.bool m, Value.slice b ys.length d] 34)).cell? ⟨w.heap.size, 0, none⟩ = some (Value.bool n) := by go_simp
  have k1 : (w.alloc (Obj.cells #[Value.bool n, Value.slice a xs.length c, Value.bool m, Value.slice b ys.length d] 34)).cell? ⟨w.heap.size, 1, none⟩ = some (Value.slice a xs.length c) := by go_simp
  have k2 : (w.alloc (Obj.cells #[Value.bool n, Value.slice a xs.length c, Value.bool m, Value.slice b ys.length d] 34)).cell? ⟨w.heap.size, 2, none⟩ = some (Value.bool m) := by go_simp
  have k3 : (w.alloc (Obj.cells #[Value.bool n, Value.slice a xs.length c, Value.bool m, Value.slice b ys.length d] 34)).cell? ⟨w.heap.size, 3, none⟩ = some (Value.slice b ys.length d) := by go_simp
  have z1 : w.heap.size < (w.alloc (Obj.cells #[Value.bool n, Value.slice a xs.length c, Value.bool m, Value.slice b ys.length d] 34)).heap.size := by simp only [World.size_alloc]; omega
  have HB := hide (bl_alloc (bl_refl w) (Obj.cells #[Value.bool n, Value.slice a xs.length c, Value.bool m, Value.slice b ys.length d] 34))
  replace H1 := hide (H1.out.below HB.out)
  replace H2 := hide (H2.out.below HB.out)
  go_enter Tryz.func40, Tryz.ntmps40
  go_wp2_with fail
  generalize (w.alloc (Obj.cells #[Value.bool n, Value.slice a xs.length c, Value.bool m, Value.slice b ys.length d] 34)) = W0 at *
  refine (RatOkQ n xs m ys a c b d _ H1.out H2.out).mono ?_
  rintro e w1 ⟨rfl, hb1⟩
  replace k0 := (hb1.cell (p := ⟨w.heap.size, 0, none⟩) z1).trans k0
  replace k1 := (hb1.cell (p := ⟨w.heap.size, 1, none⟩) z1).trans k1
  replace k2 := (hb1.cell (p := ⟨w.heap.size, 2, none⟩) z1).trans k2
  replace k3 := (hb1.cell (p := ⟨w.heap.size, 3, none⟩) z1).trans k3
  replace z1 := Nat.lt_of_lt_of_le z1 hb1.size
  replace H1 := hide (H1.out.below hb1)
  replace H2 := hide (H2.out.below hb1)
  replace HB := hide (bl_trans HB.out hb1)
  clear hb1
  cases ho : ratB n xs m ys with
  | false =>
    have HR : Hid (ratT n xs m ys = ⟨#[]⟩) := hide (by rw [ratT, ho]; rfl)
    go_wp2
    go_ret
    exact ⟨by rw [HR.out]; rfl, HB.out⟩
  | true =>
    obtain ⟨x, y, rfl, rfl, rfl, rfl, hy0, ox, oy⟩ := rat_nums hsx hsy ho
    have HX := hide (intT_num x ox)
    have HY := hide (intT_num y oy)
    have hlx := ok_len ox
    have hly := ok_len oy
    clear hsx hsy
    go_wp2_with fail
    refine (wholeS y (sgn x) (lms x) (sgn y) (lms y) a c b d _ H1.out H2.out hy0 rfl).mono ?_
    rintro e W4 ⟨rfl, hb4⟩
    replace k0 := (hb4.cell (p := ⟨w.heap.size, 0, none⟩) z1).trans k0
    replace k1 := (hb4.cell (p := ⟨w.heap.size, 1, none⟩) z1).trans k1
    replace k2 := (hb4.cell (p := ⟨w.heap.size, 2, none⟩) z1).trans k2
    replace k3 := (hb4.cell (p := ⟨w.heap.size, 3, none⟩) z1).trans k3
    replace z1 := Nat.lt_of_lt_of_le z1 hb4.size
    replace H1 := hide (H1.out.below hb4)
    replace H2 := hide (H2.out.below hb4)
    replace HB := hide (bl_trans HB.out hb4)
    clear hb4
    by_cases hy : y = 1
    · have HR := hide (ratT_one ho hy)
      rw [decide_eq_true hy]
      clear hy
      go_wp2_with fail
      refine (txtS _ x _ ⟨a, c, rfl, H1.out⟩ hlx).mono ?_
      rintro e w5 ⟨rfl, hb5⟩
      replace HB := hide (bl_trans HB.out hb5)
      clear hb5
      go_wp2
      go_ret
      exact ⟨by rw [HR.out]; rfl, HB.out⟩
    · have HR := hide (ratT_two ho hy)
      rw [decide_eq_false hy]
      have hxs := it_size hlx
      have hys := it_size hly
      have hs1 : ¬ 9223372036854775807 < (itB x).size + 1 := by omega
      have hs2 : ¬ 9223372036854775807 < (itB x).size + 1 + (itB y).size := by omega
      clear hy
      go_wp2_with fail
      go_region_held3 (fun w' => w'.cell? ⟨w.heap.size, 0, none⟩ = some (Value.bool (sgn x)) ∧ w'.cell? ⟨w.heap.size, 1, none⟩ = some (Value.slice a (lms x).length c) ∧ w'.cell? ⟨w.heap.size, 2, none⟩ = some (Value.bool (sgn y)) ∧ w'.cell? ⟨w.heap.size, 3, none⟩ = some (Value.slice b (lms y).length d))
        (first
          | exact ⟨(by (try rw [World.cell?_drew]); first | with_reducible assumption), (by (try rw [World.cell?_drew]); first | with_reducible assumption), (by (try rw [World.cell?_drew]); first | with_reducible assumption), (by (try rw [World.cell?_drew]); first | with_reducible assumption)⟩)
        (first
          | (go_at_call_of 55 (Value.agg #[Value.bool (sgn x), Value.slice a (lms x).length c]); refine (txtS _ x _ ⟨a, c, rfl, H1.out.below (bl_refl W4).drew⟩ hlx).mono ?_; rintro e w5 ⟨rfl, hb5r⟩; have hb5 : Below W4.heap.size W4 w5 := (bl_refl W4).drew.trans hb5r; have y5 := hb5.size; have k0 := (hb5r.cell (p := ⟨w.heap.size, 0, none⟩) (by dsimp only; rw [World.size_drew]; omega)).trans k0; have k1 := (hb5r.cell (p := ⟨w.heap.size, 1, none⟩) (by dsimp only; rw [World.size_drew]; omega)).trans k1; have k2 := (hb5r.cell (p := ⟨w.heap.size, 2, none⟩) (by dsimp only; rw [World.size_drew]; omega)).trans k2; have k3 := (hb5r.cell (p := ⟨w.heap.size, 3, none⟩) (by dsimp only; rw [World.size_drew]; omega)).trans k3)
          | (go_at_call_of 55 (Value.agg #[Value.bool (sgn y), Value.slice b (lms y).length d]); refine (txtS _ y _ ⟨b, d, rfl, H2.out.below hb5⟩ hly).mono ?_; rintro e w6 ⟨rfl, hb6r⟩; have hb6 : Below W4.heap.size W4 w6 := bl_trans hb5 hb6r; have y6 := hb6.size; have k0 := (hb6r.cell (p := ⟨w.heap.size, 0, none⟩) (by dsimp only; omega)).trans k0; have k1 := (hb6r.cell (p := ⟨w.heap.size, 1, none⟩) (by dsimp only; omega)).trans k1; have k2 := (hb6r.cell (p := ⟨w.heap.size, 2, none⟩) (by dsimp only; omega)).trans k2; have k3 := (hb6r.cell (p := ⟨w.heap.size, 3, none⟩) (by dsimp only; omega)).trans k3))
      have HB2 := hide (bl_trans HB.out hb6)
      go_wp2
      go_ret
      exact ⟨by rw [HR.out]; rfl, HB2.out⟩

end Go.Proofs.YtlknhheafmifnaaGreatDoor
