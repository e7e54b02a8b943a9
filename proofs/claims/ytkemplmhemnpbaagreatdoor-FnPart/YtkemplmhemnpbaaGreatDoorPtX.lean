/- The walks of powerText and both PartText: a part's text. -/
import Derived.Test.YtkemplmhemnpbaaGreatDoorPk06
import Derived.Test.YtkemplmhemnpbaaGreatDoorRatTI
import Derived.Test.YtkemplmhemnpbaaGreatDoorPk08
import Derived.Test.YtkemplmhemnpbaaGreatDoorPk03
import Derived.Test.YtkemplmhemnpbaaGreatDoorPk01
import Derived.Test.YtkemplmhemnpbaaGreatDoorDecS
import Derived.Test.YtkemplmhemnpbaaGreatDoorPk14
import Derived.Test.YtkemplmhemnpbaaGreatDoorBits
import Derived.Test.YtkemplmhemnpbaaGreatDoorPk12
import Derived.Test.YtkemplmhemnpbaaGreatDoorPk02
import Derived.Test.YtkemplmhemnpbaaGreatDoorPk04
import Derived.Test.YtkemplmhemnpbaaGreatDoorClR
import Derived.Deep.RegionHeld3
namespace Go.Proofs.YtkemplmhemnpbaaGreatDoor
open Go.RowKit
set_option linter.unusedVariables false

def ptxt (s : ByteArray) (p q : Int) : ByteArray := if partB s p q = true then (if p = q then s else s ++ ⟨#[94]⟩ ++ ratT (sgn p) (lms p) (sgn q) (lms q)) else ⟨#[]⟩
theorem pt_no {s : ByteArray} {p q : Int} (h : partB s p q = false) : ptxt s p q = ⟨#[]⟩ := by unfold ptxt; rw [if_neg (by rw [h]; decide)]
theorem pt_one {s : ByteArray} {p q : Int} (h : partB s p q = true) (e : p = q) : ptxt s p q = s := by unfold ptxt; rw [if_pos h, if_pos e]
theorem pt_two {s : ByteArray} {p q : Int} (h : partB s p q = true) (e : p ≠ q) : ptxt s p q = s ++ ⟨#[94]⟩ ++ ratT (sgn p) (lms p) (sgn q) (lms q) := by unfold ptxt; rw [if_pos h, if_neg e]
theorem pw_of {p q : Int} (h : pwB p q = true) : (-12 ≤ p ∧ p ≤ 12) ∧ (1 ≤ q ∧ q ≤ 12) ∧ Int.gcd p q = 1 := by
  unfold pwB at h
  simp only [Bool.and_eq_true, decide_eq_true_eq] at h
  exact h
theorem pb_of {s : ByteArray} {p q : Int} (h : partB s p q = true) : nameOkB s = true ∧ pwB p q = true := by
  unfold partB at h; rw [Bool.and_eq_true] at h; exact h
theorem pw_one {p q : Int} (h : pwB p q = true) (e : p = q) : p = 1 ∧ q = 1 := by
  obtain ⟨h1, h2, h3⟩ := pw_of h
  subst e
  rw [Int.gcd_self] at h3
  omega
theorem sg_one {p q : Int} (h : pwB p q = true) : sgG p q = 1 := by
  obtain ⟨h1, h2, h3⟩ := pw_of h
  unfold sgG; rw [h3, if_neg (by omega)]; rfl
theorem sm_fits {z : Int} (h : -12 ≤ z ∧ z ≤ 12) : fits z = true := by
  unfold fits
  rw [decide_eq_true_eq]
  have : (4294967296 : Nat) ^ 1 ≤ 4294967296 ^ 40 := Nat.pow_le_pow_right (by decide) (by decide)
  omega
theorem pw_rt {p q : Int} (h : pwB p q = true) : rtT (okB (sgn p) (lms p) && okB (sgn q) (lms q)) p q = true ∧ rtN (okB (sgn p) (lms p) && okB (sgn q) (lms q)) p q = p ∧ rtD (okB (sgn p) (lms p) && okB (sgn q) (lms q)) p q = q := by
  obtain ⟨h1, h2, h3⟩ := pw_of h
  have hg := sg_one h
  have e : (okB (sgn p) (lms p) && okB (sgn q) (lms q)) = true := by rw [ok_fits, ok_fits, sm_fits h1, sm_fits (by omega)]; rfl
  have ht : rtT true p q = true := by
    rw [ans_ft rfl (by omega), hg, Int.ediv_one, Int.ediv_one]
    unfold ftT; rw [sm_fits h1, sm_fits (by omega)]; rfl
  rw [e]
  refine ⟨ht, ?_, ?_⟩
  · unfold rtN; rw [if_pos ht, hg, Int.ediv_one]
  · unfold rtD; rw [if_pos ht, hg, Int.ediv_one]
theorem mk_lm (z : Int) : mk (sgn z) (Num.nat (lms z)) = z := by rw [nat_lms, mk_self]
theorem it_small {z : Int} (h : -12 ≤ z ∧ z ≤ 12) : (itB z).size ≤ 3 := by
  have e : (itB z).size = (Lib.itoa z).length := by rw [← bsize]; rfl
  rw [e]
  have key : ∀ u : Nat, u < 100 → (Lib.decDigits u).length ≤ 2 := fun u hu => TxN.dec_len_le 1 u (by omega)
  unfold Lib.itoa
  split
  · have := key z.natAbs (by omega)
    have := key (-z).toNat (by omega)
    simp only [List.length_cons]
    omega
  · have := key z.toNat (by omega)
    have := key z.natAbs (by omega)
    omega
theorem rt_small {p q : Int} (h : pwB p q = true) : (ratT (sgn p) (lms p) (sgn q) (lms q)).size ≤ 7 := by
  obtain ⟨h1, h2, h3⟩ := pw_of h
  unfold ratT
  rw [mk_lm, mk_lm]
  have e1 := it_small h1
  have e2 := it_small (z := q) (by omega)
  split
  · split
    · omega
    · rw [ByteArray.size_append, ByteArray.size_append]
      show (itB p).size + 1 + (itB q).size ≤ 7
      omega
  · show 0 ≤ 7
    omega
theorem name_short {s : ByteArray} (h : nameOkB s = true) : s.size ≤ 12 := by
  unfold nameOkB at h; simp only [Bool.and_eq_true, decide_eq_true_eq] at h; exact h.1.1

set_option maxHeartbeats 4000000 in
set_option maxRecDepth 20000 in
theorem pwTextI (p q : Int) (w : World) (hp : pwB p q = true) (htab : Tabs w) :
    Calls Tryz.prog 21 #[.int .i64 p, .int .i64 q] w fun e w' => e = .returned (.string (ratT (sgn p) (lms p) (sgn q) (lms q))) ∧ Below w.heap.size w w' := by
  obtain ⟨h1, h2, h3⟩ := pw_of hp
  have HRT := hide (pw_rt hp)
  have hy : q ≠ 0 := by omega
  clear h3 hp
  have HB := hide (bl_refl w)
  have HTB := hide htab
  clear htab
  go_enter Tryz.func21, Tryz.ntmps21
  go_wp2_with fail
  refine (fromI p _ (by omega) (by omega)).mono ?_
  rintro e w1 ⟨v1, rfl, ⟨a1, c1, rfl, ho1⟩, hb⟩
  have yw1 := hb.size
  replace HTB := hide (HTB.out.below hb)
  replace HB := hide (bl_trans HB.out hb)
  clear hb
  have S1 := hide ho1.seg
  clear ho1
  go_wp2_with fail
  refine (fromI q _ (by omega) (by omega)).mono ?_
  rintro e w2 ⟨v2, rfl, ⟨a2, c2, rfl, ho2⟩, hb⟩
  have yw2 := hb.size
  replace HTB := hide (HTB.out.below hb)
  replace S1 := hide (S1.out.below hb)
  replace HB := hide (bl_trans HB.out hb)
  clear hb
  have S2 := hide ho2.seg
  clear ho2
  go_wp2_with fail
  have HM := hide (MakeRatP (sgn p) (lms p) (sgn q) (lms q) a1 c1 a2 c2 w2 S1.out S2.out)
  rw [mk_lm, mk_lm] at HM
  refine HM.out.mono ?_
  unfold RatAns
  rw [HRT.out.1, HRT.out.2.1, HRT.out.2.2]
  rintro e w3 ⟨b1, e1, b2, e2, rfl, hu1, hu2, hap, hb⟩
  clear HM hap
  have yw3 := hb.size
  replace HTB := hide (HTB.out.below hb)
  replace S1 := hide (S1.out.below hb)
  replace S2 := hide (S2.out.below hb)
  replace HB := hide (bl_trans HB.out hb)
  clear hb
  have O1 := hide hu1.seg
  have O2 := hide hu2.seg
  clear hu1 hu2
  have yw4 : w3.heap.size + 1 ≤ (w3.alloc (Obj.cells #[Value.bool (sgn p), Value.slice b1 (lms p).length e1, Value.bool (sgn q), Value.slice b2 (lms q).length e2] 42)).heap.size := by simp only [World.size_alloc]; omega
  have kd0 : (w3.alloc (Obj.cells #[Value.bool (sgn p), Value.slice b1 (lms p).length e1, Value.bool (sgn q), Value.slice b2 (lms q).length e2] 42)).cell? ⟨w3.heap.size, 0, none⟩ = some (Value.bool (sgn p)) := by go_simp
  have kd1 : (w3.alloc (Obj.cells #[Value.bool (sgn p), Value.slice b1 (lms p).length e1, Value.bool (sgn q), Value.slice b2 (lms q).length e2] 42)).cell? ⟨w3.heap.size, 1, none⟩ = some (Value.slice b1 (lms p).length e1) := by go_simp
  have kd2 : (w3.alloc (Obj.cells #[Value.bool (sgn p), Value.slice b1 (lms p).length e1, Value.bool (sgn q), Value.slice b2 (lms q).length e2] 42)).cell? ⟨w3.heap.size, 2, none⟩ = some (Value.bool (sgn q)) := by go_simp
  have kd3 : (w3.alloc (Obj.cells #[Value.bool (sgn p), Value.slice b1 (lms p).length e1, Value.bool (sgn q), Value.slice b2 (lms q).length e2] 42)).cell? ⟨w3.heap.size, 3, none⟩ = some (Value.slice b2 (lms q).length e2) := by go_simp
  have hbn := (bl_alloc (bl_refl w3) (Obj.cells #[Value.bool (sgn p), Value.slice b1 (lms p).length e1, Value.bool (sgn q), Value.slice b2 (lms q).length e2] 42))
  replace HTB := hide (HTB.out.below hbn)
  replace S1 := hide (S1.out.below hbn)
  replace S2 := hide (S2.out.below hbn)
  replace O1 := hide (O1.out.below hbn)
  replace O2 := hide (O2.out.below hbn)
  replace HB := hide (bl_trans HB.out hbn)
  clear hbn
  go_wp2_with fail
  generalize (w3.alloc (Obj.cells #[Value.bool (sgn p), Value.slice b1 (lms p).length e1, Value.bool (sgn q), Value.slice b2 (lms q).length e2] 42)) = w4 at *
  have zr : w3.heap.size < w4.heap.size := by omega
  refine (ratTextI (sgn p) (lms p) (sgn q) (lms q) b1 e1 b2 e2 _ O1.out O2.out HTB.out).mono ?_
  rintro e w5 ⟨rfl, hb⟩
  have yw5 := hb.size
  replace kd0 := (hb.cell (p := ⟨w3.heap.size, 0, none⟩) (by dsimp only; omega)).trans kd0
  replace kd1 := (hb.cell (p := ⟨w3.heap.size, 1, none⟩) (by dsimp only; omega)).trans kd1
  replace kd2 := (hb.cell (p := ⟨w3.heap.size, 2, none⟩) (by dsimp only; omega)).trans kd2
  replace kd3 := (hb.cell (p := ⟨w3.heap.size, 3, none⟩) (by dsimp only; omega)).trans kd3
  replace HTB := hide (HTB.out.below hb)
  replace S1 := hide (S1.out.below hb)
  replace S2 := hide (S2.out.below hb)
  replace O1 := hide (O1.out.below hb)
  replace O2 := hide (O2.out.below hb)
  replace zr := Nat.lt_of_lt_of_le zr hb.size
  replace HB := hide (bl_trans HB.out hb)
  clear hb
  go_wp2
  go_ret
  exact ⟨rfl, HB.out⟩

set_option maxHeartbeats 4000000 in
set_option maxRecDepth 20000 in
theorem ptNI (s : ByteArray) (p q : Int) (w : World) (hs : s.size ≤ 140737488355328) (hk : partB s p q = false) (htab : Tabs w) :
    Calls Tryz.prog 9 #[Value.agg #[Value.string s, Value.int .i64 p, Value.int .i64 q]] w fun e w' => e = .returned (.string (ptxt s p q)) ∧ Below w.heap.size w w' := by
  have HK := hide hk
  have HR := hide (pt_no hk)
  clear hk
  have HTB := hide htab
  clear htab
  have ka0 : (w.alloc (Obj.cells #[Value.string s, Value.int .i64 p, Value.int .i64 q] 26)).cell? ⟨w.heap.size, 0, none⟩ = some (Value.string s) := by go_simp
  have ka1 : (w.alloc (Obj.cells #[Value.string s, Value.int .i64 p, Value.int .i64 q] 26)).cell? ⟨w.heap.size, 1, none⟩ = some (Value.int .i64 p) := by go_simp
  have ka2 : (w.alloc (Obj.cells #[Value.string s, Value.int .i64 p, Value.int .i64 q] 26)).cell? ⟨w.heap.size, 2, none⟩ = some (Value.int .i64 q) := by go_simp
  have zr : w.heap.size < (w.alloc (Obj.cells #[Value.string s, Value.int .i64 p, Value.int .i64 q] 26)).heap.size := by simp only [World.size_alloc]; omega
  have HB := hide (bl_alloc (bl_refl w) (Obj.cells #[Value.string s, Value.int .i64 p, Value.int .i64 q] 26))
  go_enter Tryz.func9, Tryz.ntmps9
  go_wp2_with fail
  generalize (w.alloc (Obj.cells #[Value.string s, Value.int .i64 p, Value.int .i64 q] 26)) = w1 at *
  have z0 := zr
  replace HTB := hide (HTB.out.below HB.out)
  refine (partI s p q _ hs).mono ?_
  rw [HK.out]
  rintro e w2 ⟨rfl, hb⟩
  have yw2 := hb.size
  replace ka0 := (hb.cell (p := ⟨w.heap.size, 0, none⟩) (by dsimp only; omega)).trans ka0
  replace ka1 := (hb.cell (p := ⟨w.heap.size, 1, none⟩) (by dsimp only; omega)).trans ka1
  replace ka2 := (hb.cell (p := ⟨w.heap.size, 2, none⟩) (by dsimp only; omega)).trans ka2
  replace HTB := hide (HTB.out.below hb)
  replace zr := Nat.lt_of_lt_of_le zr hb.size
  replace HB := hide (bl_trans HB.out hb)
  clear hb
  go_wp2
  go_ret
  rw [HR.out]
  exact ⟨rfl, HB.out⟩

set_option maxHeartbeats 4000000 in
set_option maxRecDepth 20000 in
theorem ptOI (s : ByteArray) (p q : Int) (w : World) (hs : s.size ≤ 140737488355328) (hk : partB s p q = true) (he : p = q) (htab : Tabs w) :
    Calls Tryz.prog 9 #[Value.agg #[Value.string s, Value.int .i64 p, Value.int .i64 q]] w fun e w' => e = .returned (.string (ptxt s p q)) ∧ Below w.heap.size w w' := by
  have HK := hide hk
  have HR := hide (pt_one hk he)
  have HPW := hide (pb_of hk).2
  have hsn := name_short (pb_of hk).1
  obtain ⟨g1, g2, g3⟩ := pw_of (pb_of hk).2
  clear g3
  obtain ⟨e1, e2⟩ := pw_one HPW.out he
  subst e1
  subst e2
  clear he
  clear hk
  have HTB := hide htab
  clear htab
  have ka0 : (w.alloc (Obj.cells #[Value.string s, Value.int .i64 1, Value.int .i64 1] 26)).cell? ⟨w.heap.size, 0, none⟩ = some (Value.string s) := by go_simp
  have ka1 : (w.alloc (Obj.cells #[Value.string s, Value.int .i64 1, Value.int .i64 1] 26)).cell? ⟨w.heap.size, 1, none⟩ = some (Value.int .i64 1) := by go_simp
  have ka2 : (w.alloc (Obj.cells #[Value.string s, Value.int .i64 1, Value.int .i64 1] 26)).cell? ⟨w.heap.size, 2, none⟩ = some (Value.int .i64 1) := by go_simp
  have zr : w.heap.size < (w.alloc (Obj.cells #[Value.string s, Value.int .i64 1, Value.int .i64 1] 26)).heap.size := by simp only [World.size_alloc]; omega
  have HB := hide (bl_alloc (bl_refl w) (Obj.cells #[Value.string s, Value.int .i64 1, Value.int .i64 1] 26))
  go_enter Tryz.func9, Tryz.ntmps9
  go_wp2_with fail
  generalize (w.alloc (Obj.cells #[Value.string s, Value.int .i64 1, Value.int .i64 1] 26)) = w1 at *
  have z0 := zr
  replace HTB := hide (HTB.out.below HB.out)
  refine (partI s 1 1 _ hs).mono ?_
  rw [HK.out]
  rintro e w2 ⟨rfl, hb⟩
  have yw2 := hb.size
  replace ka0 := (hb.cell (p := ⟨w.heap.size, 0, none⟩) (by dsimp only; omega)).trans ka0
  replace ka1 := (hb.cell (p := ⟨w.heap.size, 1, none⟩) (by dsimp only; omega)).trans ka1
  replace ka2 := (hb.cell (p := ⟨w.heap.size, 2, none⟩) (by dsimp only; omega)).trans ka2
  replace HTB := hide (HTB.out.below hb)
  replace zr := Nat.lt_of_lt_of_le zr hb.size
  replace HB := hide (bl_trans HB.out hb)
  clear hb
  go_wp2_with fail
  refine (clonT s _ (by omega)).mono ?_
  rintro e w3 ⟨rfl, hb⟩
  have yw3 := hb.size
  replace ka0 := (hb.cell (p := ⟨w.heap.size, 0, none⟩) (by dsimp only; omega)).trans ka0
  replace ka1 := (hb.cell (p := ⟨w.heap.size, 1, none⟩) (by dsimp only; omega)).trans ka1
  replace ka2 := (hb.cell (p := ⟨w.heap.size, 2, none⟩) (by dsimp only; omega)).trans ka2
  replace HTB := hide (HTB.out.below hb)
  replace zr := Nat.lt_of_lt_of_le zr hb.size
  replace HB := hide (bl_trans HB.out hb)
  clear hb
  go_wp2
  go_ret
  rw [HR.out]
  exact ⟨rfl, HB.out⟩

set_option maxHeartbeats 4000000 in
set_option maxRecDepth 20000 in
theorem ptTI (s : ByteArray) (p q : Int) (w : World) (hs : s.size ≤ 140737488355328) (hk : partB s p q = true) (he : p ≠ q) (htab : Tabs w) :
    Calls Tryz.prog 9 #[Value.agg #[Value.string s, Value.int .i64 p, Value.int .i64 q]] w fun e w' => e = .returned (.string (ptxt s p q)) ∧ Below w.heap.size w w' := by
  have HK := hide hk
  have HR := hide (pt_two hk he)
  have HPW := hide (pb_of hk).2
  have hsn := name_short (pb_of hk).1
  obtain ⟨g1, g2, g3⟩ := pw_of (pb_of hk).2
  clear g3
  have hrs := rt_small HPW.out
  have hz1 : ¬ 9223372036854775807 < s.size + 1 := by omega
  have hz2 : ¬ 9223372036854775807 < s.size + 1 + (ratT (sgn p) (lms p) (sgn q) (lms q)).size := by omega
  clear hrs
  have he2 : (p == q) = false := by rw [beq_eq_false_iff_ne]; exact he
  clear hk
  have HTB := hide htab
  clear htab
  have ka0 : (w.alloc (Obj.cells #[Value.string s, Value.int .i64 p, Value.int .i64 q] 26)).cell? ⟨w.heap.size, 0, none⟩ = some (Value.string s) := by go_simp
  have ka1 : (w.alloc (Obj.cells #[Value.string s, Value.int .i64 p, Value.int .i64 q] 26)).cell? ⟨w.heap.size, 1, none⟩ = some (Value.int .i64 p) := by go_simp
  have ka2 : (w.alloc (Obj.cells #[Value.string s, Value.int .i64 p, Value.int .i64 q] 26)).cell? ⟨w.heap.size, 2, none⟩ = some (Value.int .i64 q) := by go_simp
  have zr : w.heap.size < (w.alloc (Obj.cells #[Value.string s, Value.int .i64 p, Value.int .i64 q] 26)).heap.size := by simp only [World.size_alloc]; omega
  have HB := hide (bl_alloc (bl_refl w) (Obj.cells #[Value.string s, Value.int .i64 p, Value.int .i64 q] 26))
  go_enter Tryz.func9, Tryz.ntmps9
  go_wp2_with fail
  generalize (w.alloc (Obj.cells #[Value.string s, Value.int .i64 p, Value.int .i64 q] 26)) = w1 at *
  have z0 := zr
  replace HTB := hide (HTB.out.below HB.out)
  refine (partI s p q _ hs).mono ?_
  rw [HK.out]
  rintro e w2 ⟨rfl, hb⟩
  have yw2 := hb.size
  replace ka0 := (hb.cell (p := ⟨w.heap.size, 0, none⟩) (by dsimp only; omega)).trans ka0
  replace ka1 := (hb.cell (p := ⟨w.heap.size, 1, none⟩) (by dsimp only; omega)).trans ka1
  replace ka2 := (hb.cell (p := ⟨w.heap.size, 2, none⟩) (by dsimp only; omega)).trans ka2
  replace HTB := hide (HTB.out.below hb)
  replace zr := Nat.lt_of_lt_of_le zr hb.size
  replace HB := hide (bl_trans HB.out hb)
  clear hb
  go_wp2_with fail
  have KP : Hid (∀ w', Below w2.heap.size w2 w' → (w'.cell? ⟨w.heap.size, 0, none⟩ = some (Value.string s) ∧ w'.cell? ⟨w.heap.size, 1, none⟩ = some (Value.int .i64 p) ∧ w'.cell? ⟨w.heap.size, 2, none⟩ = some (Value.int .i64 q) ∧ Hid (Below w2.heap.size w2 w'))) := hide (fun w' hb => ⟨(hb.cell (p := ⟨w.heap.size, 0, none⟩) (by dsimp only; omega)).trans ka0, (hb.cell (p := ⟨w.heap.size, 1, none⟩) (by dsimp only; omega)).trans ka1, (hb.cell (p := ⟨w.heap.size, 2, none⟩) (by dsimp only; omega)).trans ka2, hide hb⟩)
  go_region_held3 (fun w' => w'.cell? ⟨w.heap.size, 0, none⟩ = some (Value.string s) ∧ w'.cell? ⟨w.heap.size, 1, none⟩ = some (Value.int .i64 p) ∧ w'.cell? ⟨w.heap.size, 2, none⟩ = some (Value.int .i64 q) ∧ Hid (Below w2.heap.size w2 w'))
    (first | with_reducible exact KP.out _ (bl_refl w2).drew | with_reducible exact KP.out _ bA | exact KP.out _ (bl_refl w2).drew | exact KP.out _ bA)
    (first
      | (go_at_call 21; refine (pwTextI p q _ HPW.out (HTB.out.below (Hid.out (And.right (And.right (And.right (by assumption))))))).mono ?_; rintro e wA ⟨rfl, hbAr⟩; have bA : Below w2.heap.size w2 wA := bl_trans (Hid.out (And.right (And.right (And.right (by assumption))))) hbAr))
  go_wp2
  go_ret
  rw [HR.out]
  exact ⟨rfl, bl_trans HB.out bA⟩

theorem partTextI (s : ByteArray) (p q : Int) (w : World) (hs : s.size ≤ 140737488355328) (htab : Tabs w) :
    Calls Tryz.prog 9 #[Value.agg #[Value.string s, Value.int .i64 p, Value.int .i64 q]] w fun e w' => e = .returned (.string (ptxt s p q)) ∧ Below w.heap.size w w' := by
  cases hk : partB s p q with
  | false => exact ptNI s p q w hs hk htab
  | true =>
    by_cases he : p = q
    · exact ptOI s p q w hs hk he htab
    · exact ptTI s p q w hs hk he htab
end Go.Proofs.YtkemplmhemnpbaaGreatDoor
