/- The walk of the program's ReadRat at the text of a right fraction: that fraction comes back. -/
import Derived.Test.YtpmgpdlminacaaaGreatDoorPk40
import Derived.Test.YtpmgpdlminacaaaGreatDoorRdK
namespace Go.Proofs.YtpmgpdlminacaaaGreatDoor
open Go.RowKit
set_option linter.unusedVariables false

theorem rd_gen {s : ByteArray} {g : Bool} {d : List UInt8} (h : s.data.toList = if g then 45 :: d else d) (hd : d.head? ≠ some 45) : rdNeg s = g ∧ rdD s = ⟨d.toArray⟩ := by
  unfold rdNeg rdD Lib.trimPrefix Lib.hasPrefix
  rw [h]
  cases g with
  | true => simp
  | false =>
    cases d with
    | nil => simp
    | cons c t =>
      have hc : (45 == c) = false := by
        rw [beq_eq_false_iff_ne]; intro e; exact hd (by rw [← e]; rfl)
      simp [List.isPrefixOf, hc]
theorem head_not {l : List UInt8} (h : digAll l = true) : l.head? ≠ some 45 := by
  cases l with
  | nil => simp
  | cons c t =>
    simp only [digAll, List.all_cons, Bool.and_eq_true] at h
    have := dig_bounds h.1
    intro e
    simp only [List.head?_cons, Option.some.injEq] at e
    subst e
    exact absurd this.1 (by decide)
theorem head_app {l r : List UInt8} (h : digAll l = true) (hl : l ≠ []) : (l ++ r).head? ≠ some 45 := by
  cases l with
  | nil => exact absurd rfl hl
  | cons c t => exact head_not (l := c :: t) h
theorem it_sign (z : Int) (r : List UInt8) : (itB z).data.toList ++ r = if sgn z then 45 :: (Lib.decDigits z.natAbs ++ r) else Lib.decDigits z.natAbs ++ r := by
  cases hg : sgn z with
  | true => rw [it_neg hg]; rfl
  | false => rw [it_pos hg]; rfl
theorem dig_bytes (m : Nat) : digOk ⟨(Lib.decDigits m).toArray⟩ = true := by
  unfold digOk
  rw [show (⟨(Lib.decDigits m).toArray⟩ : ByteArray).data.toList = Lib.decDigits m from rfl, dec_digs]
  have : (⟨(Lib.decDigits m).toArray⟩ : ByteArray).size ≠ 0 := by
    rw [← bsize]
    have := TxN.dec_pos m
    show (Lib.decDigits m).length ≠ 0
    omega
  rw [decide_eq_true this]; rfl
theorem size_bytes (m : Nat) : (⟨(Lib.decDigits m).toArray⟩ : ByteArray).size = (Lib.decDigits m).length := by rw [← bsize]
theorem rat_facts {x y : Int} (h : ratB (sgn x) (lms x) (sgn y) (lms y) = true) : 0 < y ∧ Int.gcd x y = 1 ∧ fits x = true ∧ fits y = true := by
  simp only [ratB, Bool.and_eq_true, decide_eq_true_eq] at h
  obtain ⟨⟨ha, hb⟩, hc, hd⟩ := h
  rw [nat_lms, mk_self] at hc
  rw [nat_lms, nat_lms, mk_self, mk_self] at hd
  exact ⟨hc, hd, by rw [← ok_fits]; exact ha, by rw [← ok_fits]; exact hb⟩

set_option maxHeartbeats 2000000 in
set_option maxRecDepth 20000 in
theorem readWhole (s : ByteArray) (x : Int) (dd : List UInt8) (w : World) (hm : Mx w) (hs : s.size ≤ 400) (hg : rdNeg s = sgn x) (hd : rdD s = ⟨dd.toArray⟩) (he : dd = Lib.decDigits x.natAbs) (hl : dd.length ≤ 400) (fx : fits x = true) :
    Calls Tryz.prog 7 #[.string s] w fun e w' => ∃ b1 e1 b2 e2, e = .returned (.tuple #[.agg #[.bool (sgn x), .slice b1 (lms x).length e1, .bool (sgn 1), .slice b2 (lms 1).length e2], .bool true]) ∧ Own w' w.heap.size b1 (lms x).length e1 (lms x) ∧ Own w' w.heap.size b2 (lms 1).length e2 (lms 1) ∧ Below w.heap.size w w' := by
  have HN := hide hg
  have HD := hide hd
  have hs' : ¬ (400 : Int) < (s.size : Int) := by omega
  have HSZ : Hid ((⟨dd.toArray⟩ : ByteArray).size = dd.length) := hide (by rw [← bsize])
  have HC := hide (cut_none (c := 47) (l := dd) (dig_not (by rw [he]; exact dec_digs _) (by decide)))
  have HE := hide he
  clear hg hd he
  have kr0 : (w.alloc (Obj.cells #[Value.bool false, Value.slice none 0 0, Value.bool false, Value.slice none 0 0] 26)).cell? ⟨w.heap.size, 0, none⟩ = some (Value.bool false) := by go_simp
  have fr0 : (w.alloc (Obj.cells #[Value.bool false, Value.slice none 0 0, Value.bool false, Value.slice none 0 0] 26)).frozen? ⟨w.heap.size, 0, none⟩ = false := by go_simp
  have kr1 : (w.alloc (Obj.cells #[Value.bool false, Value.slice none 0 0, Value.bool false, Value.slice none 0 0] 26)).cell? ⟨w.heap.size, 1, none⟩ = some (Value.slice none 0 0) := by go_simp
  have fr1 : (w.alloc (Obj.cells #[Value.bool false, Value.slice none 0 0, Value.bool false, Value.slice none 0 0] 26)).frozen? ⟨w.heap.size, 1, none⟩ = false := by go_simp
  have kr2 : (w.alloc (Obj.cells #[Value.bool false, Value.slice none 0 0, Value.bool false, Value.slice none 0 0] 26)).cell? ⟨w.heap.size, 2, none⟩ = some (Value.bool false) := by go_simp
  have fr2 : (w.alloc (Obj.cells #[Value.bool false, Value.slice none 0 0, Value.bool false, Value.slice none 0 0] 26)).frozen? ⟨w.heap.size, 2, none⟩ = false := by go_simp
  have kr3 : (w.alloc (Obj.cells #[Value.bool false, Value.slice none 0 0, Value.bool false, Value.slice none 0 0] 26)).cell? ⟨w.heap.size, 3, none⟩ = some (Value.slice none 0 0) := by go_simp
  have fr3 : (w.alloc (Obj.cells #[Value.bool false, Value.slice none 0 0, Value.bool false, Value.slice none 0 0] 26)).frozen? ⟨w.heap.size, 3, none⟩ = false := by go_simp
  have zr : w.heap.size < (w.alloc (Obj.cells #[Value.bool false, Value.slice none 0 0, Value.bool false, Value.slice none 0 0] 26)).heap.size := by simp only [World.size_alloc]; omega
  have HB := hide (bl_alloc (bl_refl w) (Obj.cells #[Value.bool false, Value.slice none 0 0, Value.bool false, Value.slice none 0 0] 26))
  have HM := hide (hm.below HB.out)
  clear hm
  go_enter Tryz.func7, Tryz.ntmps7
  go_wp2_with fail
  generalize w.alloc (Obj.cells #[Value.bool false, Value.slice none 0 0, Value.bool false, Value.slice none 0 0] 26) = W0 at *
  refine (cutPre s _ _).mono ?_
  rintro e w1 ⟨rfl, hw⟩
  subst w1
  rw [show ({ data := #[45] } : ByteArray).data.toList = [45] from rfl, show (⟨(Lib.trimPrefix s.data.toList [45]).toArray⟩ : ByteArray) = rdD s from rfl, show Lib.hasPrefix s.data.toList [45] = rdNeg s from rfl, HN.out, HD.out]
  go_wp2_with fail
  refine (cutI _ 47 _ (by rw [HSZ.out]; omega) HM.out).mono ?_
  rw [show (⟨dd.toArray⟩ : ByteArray).data.toList = dd from rfl, HC.out]
  rintro e w2 ⟨rfl, hb⟩
  replace kr0 := (hb.cell (p := ⟨w.heap.size, 0, none⟩) zr).trans kr0
  replace fr0 := (hb.frozen (p := ⟨w.heap.size, 0, none⟩) zr).trans fr0
  replace kr1 := (hb.cell (p := ⟨w.heap.size, 1, none⟩) zr).trans kr1
  replace fr1 := (hb.frozen (p := ⟨w.heap.size, 1, none⟩) zr).trans fr1
  replace kr2 := (hb.cell (p := ⟨w.heap.size, 2, none⟩) zr).trans kr2
  replace fr2 := (hb.frozen (p := ⟨w.heap.size, 2, none⟩) zr).trans fr2
  replace kr3 := (hb.cell (p := ⟨w.heap.size, 3, none⟩) zr).trans kr3
  replace fr3 := (hb.frozen (p := ⟨w.heap.size, 3, none⟩) zr).trans fr3
  replace zr := Nat.lt_of_lt_of_le zr hb.size
  replace HM := hide (HM.out.below hb)
  replace HB := hide (bl_trans HB.out hb)
  clear hb
  go_wp2_with fail
  refine (readDecI (sgn x) ⟨dd.toArray⟩ x _ HM.out (by rw [HE.out]; exact dig_bytes _) (by rw [HSZ.out]; exact hl) (by show mk (sgn x) (valN dd) = x; rw [HE.out, val_dec, mk_self]) fx).mono ?_
  rintro e w3 ⟨b1, e1, b2, e2, rfl, ho1, ho2, hb⟩
  have zr2 := zr
  have HO1 := hide ho1
  have HO2 := hide ho2
  clear ho1 ho2
  replace kr0 := (hb.cell (p := ⟨w.heap.size, 0, none⟩) zr).trans kr0
  replace fr0 := (hb.frozen (p := ⟨w.heap.size, 0, none⟩) zr).trans fr0
  replace kr1 := (hb.cell (p := ⟨w.heap.size, 1, none⟩) zr).trans kr1
  replace fr1 := (hb.frozen (p := ⟨w.heap.size, 1, none⟩) zr).trans fr1
  replace kr2 := (hb.cell (p := ⟨w.heap.size, 2, none⟩) zr).trans kr2
  replace fr2 := (hb.frozen (p := ⟨w.heap.size, 2, none⟩) zr).trans fr2
  replace kr3 := (hb.cell (p := ⟨w.heap.size, 3, none⟩) zr).trans kr3
  replace fr3 := (hb.frozen (p := ⟨w.heap.size, 3, none⟩) zr).trans fr3
  replace zr := Nat.lt_of_lt_of_le zr hb.size
  replace HB := hide (bl_trans HB.out hb)
  clear hb
  go_wp2
  refine bodyPost_ret (v := .tuple #[.agg #[.bool (sgn x), .slice b1 (lms x).length e1, .bool (sgn 1), .slice b2 (lms 1).length e2], .bool true]) (by simp [results, Tryz.results7, go_sem, *]) rfl ?_
  exact ⟨b1, e1, b2, e2, rfl, own_four' HO1.out (by omega) (by omega) _ _ _ _, own_four' HO2.out (by omega) (by omega) _ _ _ _, set_four (Nat.le_refl _) HB.out _ _ _ _⟩

set_option maxHeartbeats 2000000 in
set_option maxRecDepth 20000 in
theorem readTwo (s : ByteArray) (x y : Int) (dd : List UInt8) (w : World) (hm : Mx w) (hs : s.size ≤ 400) (hg : rdNeg s = sgn x) (hd : rdD s = ⟨dd.toArray⟩) (he : dd = Lib.decDigits x.natAbs ++ 47 :: Lib.decDigits y.natAbs) (hl : dd.length ≤ 400) (hy : 0 < y) (hgc : Int.gcd x y = 1) (fx : fits x = true) (fy : fits y = true) :
    Calls Tryz.prog 7 #[.string s] w fun e w' => ∃ b1 e1 b2 e2, e = .returned (.tuple #[.agg #[.bool (sgn x), .slice b1 (lms x).length e1, .bool (sgn y), .slice b2 (lms y).length e2], .bool true]) ∧ Own w' w.heap.size b1 (lms x).length e1 (lms x) ∧ Own w' w.heap.size b2 (lms y).length e2 (lms y) ∧ Below w.heap.size w w' := by
  have HN := hide hg
  have HD := hide hd
  have hs' : ¬ (400 : Int) < (s.size : Int) := by omega
  have HSZ : Hid ((⟨dd.toArray⟩ : ByteArray).size = dd.length) := hide (by rw [← bsize])
  have HL1 : Hid ((Lib.decDigits x.natAbs).length ≤ 400 ∧ (Lib.decDigits y.natAbs).length ≤ 400) := hide (by rw [he, List.length_append, List.length_cons] at hl; omega)
  have HC : Hid (Lib.cut dd [47] = (Lib.decDigits x.natAbs, Lib.decDigits y.natAbs, true)) := hide (by rw [he]; exact cut_mid (dig_not (dec_digs _) (by decide)))
  clear hg hd he
  have kr0 : (w.alloc (Obj.cells #[Value.bool false, Value.slice none 0 0, Value.bool false, Value.slice none 0 0] 26)).cell? ⟨w.heap.size, 0, none⟩ = some (Value.bool false) := by go_simp
  have fr0 : (w.alloc (Obj.cells #[Value.bool false, Value.slice none 0 0, Value.bool false, Value.slice none 0 0] 26)).frozen? ⟨w.heap.size, 0, none⟩ = false := by go_simp
  have kr1 : (w.alloc (Obj.cells #[Value.bool false, Value.slice none 0 0, Value.bool false, Value.slice none 0 0] 26)).cell? ⟨w.heap.size, 1, none⟩ = some (Value.slice none 0 0) := by go_simp
  have fr1 : (w.alloc (Obj.cells #[Value.bool false, Value.slice none 0 0, Value.bool false, Value.slice none 0 0] 26)).frozen? ⟨w.heap.size, 1, none⟩ = false := by go_simp
  have kr2 : (w.alloc (Obj.cells #[Value.bool false, Value.slice none 0 0, Value.bool false, Value.slice none 0 0] 26)).cell? ⟨w.heap.size, 2, none⟩ = some (Value.bool false) := by go_simp
  have fr2 : (w.alloc (Obj.cells #[Value.bool false, Value.slice none 0 0, Value.bool false, Value.slice none 0 0] 26)).frozen? ⟨w.heap.size, 2, none⟩ = false := by go_simp
  have kr3 : (w.alloc (Obj.cells #[Value.bool false, Value.slice none 0 0, Value.bool false, Value.slice none 0 0] 26)).cell? ⟨w.heap.size, 3, none⟩ = some (Value.slice none 0 0) := by go_simp
  have fr3 : (w.alloc (Obj.cells #[Value.bool false, Value.slice none 0 0, Value.bool false, Value.slice none 0 0] 26)).frozen? ⟨w.heap.size, 3, none⟩ = false := by go_simp
  have zr : w.heap.size < (w.alloc (Obj.cells #[Value.bool false, Value.slice none 0 0, Value.bool false, Value.slice none 0 0] 26)).heap.size := by simp only [World.size_alloc]; omega
  have HB := hide (bl_alloc (bl_refl w) (Obj.cells #[Value.bool false, Value.slice none 0 0, Value.bool false, Value.slice none 0 0] 26))
  have HM := hide (hm.below HB.out)
  clear hm
  go_enter Tryz.func7, Tryz.ntmps7
  go_wp2_with fail
  generalize w.alloc (Obj.cells #[Value.bool false, Value.slice none 0 0, Value.bool false, Value.slice none 0 0] 26) = W0 at *
  refine (cutPre s _ _).mono ?_
  rintro e w1 ⟨rfl, hw⟩
  subst w1
  rw [show ({ data := #[45] } : ByteArray).data.toList = [45] from rfl, show (⟨(Lib.trimPrefix s.data.toList [45]).toArray⟩ : ByteArray) = rdD s from rfl, show Lib.hasPrefix s.data.toList [45] = rdNeg s from rfl, HN.out, HD.out]
  go_wp2_with fail
  refine (cutI _ 47 _ (by rw [HSZ.out]; omega) HM.out).mono ?_
  rw [show (⟨dd.toArray⟩ : ByteArray).data.toList = dd from rfl, HC.out]
  rintro e w2 ⟨rfl, hb⟩
  replace kr0 := (hb.cell (p := ⟨w.heap.size, 0, none⟩) zr).trans kr0
  replace fr0 := (hb.frozen (p := ⟨w.heap.size, 0, none⟩) zr).trans fr0
  replace kr1 := (hb.cell (p := ⟨w.heap.size, 1, none⟩) zr).trans kr1
  replace fr1 := (hb.frozen (p := ⟨w.heap.size, 1, none⟩) zr).trans fr1
  replace kr2 := (hb.cell (p := ⟨w.heap.size, 2, none⟩) zr).trans kr2
  replace fr2 := (hb.frozen (p := ⟨w.heap.size, 2, none⟩) zr).trans fr2
  replace kr3 := (hb.cell (p := ⟨w.heap.size, 3, none⟩) zr).trans kr3
  replace fr3 := (hb.frozen (p := ⟨w.heap.size, 3, none⟩) zr).trans fr3
  replace zr := Nat.lt_of_lt_of_le zr hb.size
  replace HM := hide (HM.out.below hb)
  replace HB := hide (bl_trans HB.out hb)
  clear hb
  go_wp2_with fail
  refine (readQuotI (sgn x) ⟨(Lib.decDigits x.natAbs).toArray⟩ ⟨(Lib.decDigits y.natAbs).toArray⟩ x y _ (dig_bytes _) (dig_bytes _) (by rw [size_bytes]; exact HL1.out.1) (by rw [size_bytes]; exact HL1.out.2) (by show mk (sgn x) (valN (Lib.decDigits x.natAbs)) = x; rw [val_dec, mk_self]) (by show mk false (valN (Lib.decDigits y.natAbs)) = y; rw [val_dec]; show (y.natAbs : Int) = y; omega) hy hgc fx fy).mono ?_
  rintro e w3 ⟨b1, e1, b2, e2, rfl, ho1, ho2, hb⟩
  have zr2 := zr
  have HO1 := hide ho1
  have HO2 := hide ho2
  clear ho1 ho2
  replace kr0 := (hb.cell (p := ⟨w.heap.size, 0, none⟩) zr).trans kr0
  replace fr0 := (hb.frozen (p := ⟨w.heap.size, 0, none⟩) zr).trans fr0
  replace kr1 := (hb.cell (p := ⟨w.heap.size, 1, none⟩) zr).trans kr1
  replace fr1 := (hb.frozen (p := ⟨w.heap.size, 1, none⟩) zr).trans fr1
  replace kr2 := (hb.cell (p := ⟨w.heap.size, 2, none⟩) zr).trans kr2
  replace fr2 := (hb.frozen (p := ⟨w.heap.size, 2, none⟩) zr).trans fr2
  replace kr3 := (hb.cell (p := ⟨w.heap.size, 3, none⟩) zr).trans kr3
  replace fr3 := (hb.frozen (p := ⟨w.heap.size, 3, none⟩) zr).trans fr3
  replace zr := Nat.lt_of_lt_of_le zr hb.size
  replace HB := hide (bl_trans HB.out hb)
  clear hb
  go_wp2
  refine bodyPost_ret (v := .tuple #[.agg #[.bool (sgn x), .slice b1 (lms x).length e1, .bool (sgn y), .slice b2 (lms y).length e2], .bool true]) (by simp [results, Tryz.results7, go_sem, *]) rfl ?_
  exact ⟨b1, e1, b2, e2, rfl, own_four' HO1.out (by omega) (by omega) _ _ _ _, own_four' HO2.out (by omega) (by omega) _ _ _ _, set_four (Nat.le_refl _) HB.out _ _ _ _⟩

theorem len_cut {s : ByteArray} {g : Bool} {d : List UInt8} (h : s.data.toList = if g then 45 :: d else d) : d.length ≤ s.size := by
  have := congrArg List.length h
  rw [bsize] at this
  cases g with
  | true => rw [if_pos rfl, List.length_cons] at this; omega
  | false => rw [if_neg (by simp)] at this; omega
theorem readRatI (x y : Int) (w : World) (hm : Mx w) (hr : ratB (sgn x) (lms x) (sgn y) (lms y) = true) (hs : (ratT (sgn x) (lms x) (sgn y) (lms y)).size ≤ 400) :
    Calls Tryz.prog 7 #[.string (ratT (sgn x) (lms x) (sgn y) (lms y))] w fun e w' => ∃ b1 e1 b2 e2, e = .returned (.tuple #[.agg #[.bool (sgn x), .slice b1 (lms x).length e1, .bool (sgn y), .slice b2 (lms y).length e2], .bool true]) ∧ Own w' w.heap.size b1 (lms x).length e1 (lms x) ∧ Own w' w.heap.size b2 (lms y).length e2 (lms y) ∧ Below w.heap.size w w' := by
  obtain ⟨hy, hg, fx, fy⟩ := rat_facts hr
  by_cases h1 : y = 1
  · have e0 := ratT_one hr h1
    rw [e0] at hs ⊢
    subst h1
    have hc : (itB x).data.toList = if sgn x then 45 :: Lib.decDigits x.natAbs else Lib.decDigits x.natAbs := by
      have := it_sign x []; simpa using this
    obtain ⟨g1, g2⟩ := rd_gen hc (head_not (dec_digs _))
    exact readWhole _ x _ w hm hs g1 g2 rfl (Nat.le_trans (len_cut hc) hs) fx
  · have e0 := ratT_two hr h1
    rw [e0] at hs ⊢
    have hsy : sgn y = false := decide_eq_false (by omega)
    have hc : (itB x ++ ⟨#[47]⟩ ++ itB y).data.toList = if sgn x then 45 :: (Lib.decDigits x.natAbs ++ 47 :: Lib.decDigits y.natAbs) else Lib.decDigits x.natAbs ++ 47 :: Lib.decDigits y.natAbs := by
      have := it_sign x (47 :: Lib.decDigits y.natAbs)
      rw [← this, ← it_pos hsy]; simp
    obtain ⟨g1, g2⟩ := rd_gen hc (head_app (dec_digs _) (dec_ne _))
    exact readTwo _ x y _ w hm hs g1 g2 rfl (Nat.le_trans (len_cut hc) hs) hy hg fx fy
end Go.Proofs.YtpmgpdlminacaaaGreatDoor
