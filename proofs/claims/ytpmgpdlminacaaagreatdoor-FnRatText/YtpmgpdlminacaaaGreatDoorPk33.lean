/- My texts DrQ, ReadN, in this order. -/
import Derived.Test.YtpmgpdlminacaaaGreatDoorPk32
import Derived.Lib.ItoaNum
/- The walks of the draws of the laws, and of whether two fractions are alike. -/
namespace Go.Proofs.YtpmgpdlminacaaaGreatDoor
open Go.RowKit
set_option linter.unusedVariables false

theorem own4 {w1 : World} {N b n c : Nat} {a : Option Addr} {xs : List Nat} (h : Own w1 b a n c xs) (hN : N < b) (x y z t : Value) : Own ((((w1.setCell ⟨N, 0, none⟩ x).setCell ⟨N, 1, none⟩ y).setCell ⟨N, 2, none⟩ z).setCell ⟨N, 3, none⟩ t) b a n c xs :=
  (((h.setCell (p := ⟨N, 0, none⟩) hN x).setCell (p := ⟨N, 1, none⟩) hN y).setCell (p := ⟨N, 2, none⟩) hN z).setCell (p := ⟨N, 3, none⟩) hN t
theorem Only.drew {B : Nat} {a w : World} (h : Only B a w) : Only B a w.drew := ⟨h.os, h.tape, h.output, h.size, h.block⟩
theorem only_of_drew {B : Nat} {a w : World} (h : Only B a.drew w) : Only B a w := ⟨h.os, h.tape, h.output, h.size, h.block⟩
theorem Cur.drew {B : Nat} {a : Option Addr} {len cap : Nat} {w : World} (h : Cur B a len cap w) : Cur B a len cap w.drew := h.drewN 1
set_option maxHeartbeats 2000000 in
theorem sameR (n : Bool) (xs : List Nat) (m : Bool) (ys : List Nat) (a1 : Option Addr) (c1 : Nat) (b1 : Option Addr) (e1 : Nat) (a2 : Option Addr) (c2 : Nat) (b2 : Option Addr) (e2 : Nat) (w : World)
    (s1 : Seg w a1 xs.length c1 xs) (t1 : Seg w b1 ys.length e1 ys) (s2 : Seg w a2 xs.length c2 xs) (t2 : Seg w b2 ys.length e2 ys) :
    Calls Tryz.prog 15 #[.agg #[.bool n, .slice a1 xs.length c1, .bool m, .slice b1 ys.length e1], .agg #[.bool n, .slice a2 xs.length c2, .bool m, .slice b2 ys.length e2]] w fun e w' => e = .returned (.bool true) ∧ Below w.heap.size w w' := by
  have ka0 : ((w.alloc (Obj.cells #[Value.bool n, Value.slice a1 xs.length c1, Value.bool m, Value.slice b1 ys.length e1] 26)).alloc (Obj.cells #[Value.bool n, Value.slice a2 xs.length c2, Value.bool m, Value.slice b2 ys.length e2] 26)).cell? ⟨w.heap.size, 0, none⟩ = some (Value.bool n) := by go_simp
  have ka1 : ((w.alloc (Obj.cells #[Value.bool n, Value.slice a1 xs.length c1, Value.bool m, Value.slice b1 ys.length e1] 26)).alloc (Obj.cells #[Value.bool n, Value.slice a2 xs.length c2, Value.bool m, Value.slice b2 ys.length e2] 26)).cell? ⟨w.heap.size, 1, none⟩ = some (Value.slice a1 xs.length c1) := by go_simp
  have ka2 : ((w.alloc (Obj.cells #[Value.bool n, Value.slice a1 xs.length c1, Value.bool m, Value.slice b1 ys.length e1] 26)).alloc (Obj.cells #[Value.bool n, Value.slice a2 xs.length c2, Value.bool m, Value.slice b2 ys.length e2] 26)).cell? ⟨w.heap.size, 2, none⟩ = some (Value.bool m) := by go_simp
  have ka3 : ((w.alloc (Obj.cells #[Value.bool n, Value.slice a1 xs.length c1, Value.bool m, Value.slice b1 ys.length e1] 26)).alloc (Obj.cells #[Value.bool n, Value.slice a2 xs.length c2, Value.bool m, Value.slice b2 ys.length e2] 26)).cell? ⟨w.heap.size, 3, none⟩ = some (Value.slice b1 ys.length e1) := by go_simp
  have kb0 : ((w.alloc (Obj.cells #[Value.bool n, Value.slice a1 xs.length c1, Value.bool m, Value.slice b1 ys.length e1] 26)).alloc (Obj.cells #[Value.bool n, Value.slice a2 xs.length c2, Value.bool m, Value.slice b2 ys.length e2] 26)).cell? ⟨w.heap.size + 1, 0, none⟩ = some (Value.bool n) := by go_simp
  have kb1 : ((w.alloc (Obj.cells #[Value.bool n, Value.slice a1 xs.length c1, Value.bool m, Value.slice b1 ys.length e1] 26)).alloc (Obj.cells #[Value.bool n, Value.slice a2 xs.length c2, Value.bool m, Value.slice b2 ys.length e2] 26)).cell? ⟨w.heap.size + 1, 1, none⟩ = some (Value.slice a2 xs.length c2) := by go_simp
  have kb2 : ((w.alloc (Obj.cells #[Value.bool n, Value.slice a1 xs.length c1, Value.bool m, Value.slice b1 ys.length e1] 26)).alloc (Obj.cells #[Value.bool n, Value.slice a2 xs.length c2, Value.bool m, Value.slice b2 ys.length e2] 26)).cell? ⟨w.heap.size + 1, 2, none⟩ = some (Value.bool m) := by go_simp
  have kb3 : ((w.alloc (Obj.cells #[Value.bool n, Value.slice a1 xs.length c1, Value.bool m, Value.slice b1 ys.length e1] 26)).alloc (Obj.cells #[Value.bool n, Value.slice a2 xs.length c2, Value.bool m, Value.slice b2 ys.length e2] 26)).cell? ⟨w.heap.size + 1, 3, none⟩ = some (Value.slice b2 ys.length e2) := by go_simp
  have za : w.heap.size < ((w.alloc (Obj.cells #[Value.bool n, Value.slice a1 xs.length c1, Value.bool m, Value.slice b1 ys.length e1] 26)).alloc (Obj.cells #[Value.bool n, Value.slice a2 xs.length c2, Value.bool m, Value.slice b2 ys.length e2] 26)).heap.size := by simp only [World.size_alloc]; omega
  have zb : w.heap.size + 1 < ((w.alloc (Obj.cells #[Value.bool n, Value.slice a1 xs.length c1, Value.bool m, Value.slice b1 ys.length e1] 26)).alloc (Obj.cells #[Value.bool n, Value.slice a2 xs.length c2, Value.bool m, Value.slice b2 ys.length e2] 26)).heap.size := by simp only [World.size_alloc]; omega
  have HB := hide (bl_alloc (bl_alloc (bl_refl w) (Obj.cells #[Value.bool n, Value.slice a1 xs.length c1, Value.bool m, Value.slice b1 ys.length e1] 26)) (Obj.cells #[Value.bool n, Value.slice a2 xs.length c2, Value.bool m, Value.slice b2 ys.length e2] 26))
  have S1 := hide (s1.below HB.out)
  have T1 := hide (t1.below HB.out)
  have S2 := hide (s2.below HB.out)
  have T2 := hide (t2.below HB.out)
  clear s1 t1 s2 t2
  go_enter Tryz.func15, Tryz.ntmps15
  go_wp2_with fail
  generalize ((w.alloc (Obj.cells #[Value.bool n, Value.slice a1 xs.length c1, Value.bool m, Value.slice b1 ys.length e1] 26)).alloc (Obj.cells #[Value.bool n, Value.slice a2 xs.length c2, Value.bool m, Value.slice b2 ys.length e2] 26)) = w1 at *
  refine (sameB n xs a1 c1 a2 c2 _ S1.out S2.out).mono ?_
  rintro e w2 ⟨rfl, hb⟩
  replace ka0 := (hb.cell (p := ⟨w.heap.size, 0, none⟩) za).trans ka0
  replace ka1 := (hb.cell (p := ⟨w.heap.size, 1, none⟩) za).trans ka1
  replace ka2 := (hb.cell (p := ⟨w.heap.size, 2, none⟩) za).trans ka2
  replace ka3 := (hb.cell (p := ⟨w.heap.size, 3, none⟩) za).trans ka3
  replace kb0 := (hb.cell (p := ⟨w.heap.size + 1, 0, none⟩) zb).trans kb0
  replace kb1 := (hb.cell (p := ⟨w.heap.size + 1, 1, none⟩) zb).trans kb1
  replace kb2 := (hb.cell (p := ⟨w.heap.size + 1, 2, none⟩) zb).trans kb2
  replace kb3 := (hb.cell (p := ⟨w.heap.size + 1, 3, none⟩) zb).trans kb3
  replace T1 := hide (T1.out.below hb)
  replace T2 := hide (T2.out.below hb)
  replace HB := hide (bl_trans HB.out hb)
  clear hb
  go_wp2_with fail
  refine (sameB m ys b1 e1 b2 e2 _ T1.out T2.out).mono ?_
  rintro e w3 ⟨rfl, hb⟩
  replace HB := hide (bl_trans HB.out hb)
  clear hb
  go_wp2
  go_ret
  exact ⟨rfl, HB.out⟩

set_option maxHeartbeats 2000000 in
theorem drawFloor (a : Option Addr) (len cap : Nat) (w : World) (hr : Row a len cap w) :
    Calls Tryz.prog 12 #[.slice a len cap] w fun e w' => ∃ n a1 c1 xs m b1 e1 ys, e = .returned (.agg #[.bool n, .slice a1 xs.length c1, .bool m, .slice b1 ys.length e1]) ∧ Seg w' a1 xs.length c1 xs ∧ Seg w' b1 ys.length e1 ys ∧ Below w.heap.size w w' := by
  have kr0 : (w.alloc (Obj.cells #[Value.bool false, Value.slice none 0 0, Value.bool false, Value.slice none 0 0] 26)).cell? ⟨w.heap.size, 0, none⟩ = some (Value.bool false) := by go_simp
  have fr0 : (w.alloc (Obj.cells #[Value.bool false, Value.slice none 0 0, Value.bool false, Value.slice none 0 0] 26)).frozen? ⟨w.heap.size, 0, none⟩ = false := by go_simp
  have kr1 : (w.alloc (Obj.cells #[Value.bool false, Value.slice none 0 0, Value.bool false, Value.slice none 0 0] 26)).cell? ⟨w.heap.size, 1, none⟩ = some (Value.slice none 0 0) := by go_simp
  have fr1 : (w.alloc (Obj.cells #[Value.bool false, Value.slice none 0 0, Value.bool false, Value.slice none 0 0] 26)).frozen? ⟨w.heap.size, 1, none⟩ = false := by go_simp
  have kr2 : (w.alloc (Obj.cells #[Value.bool false, Value.slice none 0 0, Value.bool false, Value.slice none 0 0] 26)).cell? ⟨w.heap.size, 2, none⟩ = some (Value.bool false) := by go_simp
  have fr2 : (w.alloc (Obj.cells #[Value.bool false, Value.slice none 0 0, Value.bool false, Value.slice none 0 0] 26)).frozen? ⟨w.heap.size, 2, none⟩ = false := by go_simp
  have kr3 : (w.alloc (Obj.cells #[Value.bool false, Value.slice none 0 0, Value.bool false, Value.slice none 0 0] 26)).cell? ⟨w.heap.size, 3, none⟩ = some (Value.slice none 0 0) := by go_simp
  have fr3 : (w.alloc (Obj.cells #[Value.bool false, Value.slice none 0 0, Value.bool false, Value.slice none 0 0] 26)).frozen? ⟨w.heap.size, 3, none⟩ = false := by go_simp
  have zr : w.heap.size < (w.alloc (Obj.cells #[Value.bool false, Value.slice none 0 0, Value.bool false, Value.slice none 0 0] 26)).heap.size := by simp only [World.size_alloc]; omega
  have HB := hide (bl_alloc (bl_refl w) (Obj.cells #[Value.bool false, Value.slice none 0 0, Value.bool false, Value.slice none 0 0] 26))
  have HR := hide (hr.bel HB.out)
  clear hr
  go_enter Tryz.func12, Tryz.ntmps12
  go_upto_region 1 with fail
  generalize (w.alloc (Obj.cells #[Value.bool false, Value.slice none 0 0, Value.bool false, Value.slice none 0 0] 26)) = wa at *
  go_wp2_with fail
  refine (newD a len cap _ HR.out).mono ?_
  rintro e w2 ⟨rfl, hc2, hb2⟩
  replace kr0 := (hb2.cell (p := ⟨w.heap.size, 0, none⟩) zr).trans kr0
  replace fr0 := (hb2.frozen (p := ⟨w.heap.size, 0, none⟩) zr).trans fr0
  replace kr1 := (hb2.cell (p := ⟨w.heap.size, 1, none⟩) zr).trans kr1
  replace fr1 := (hb2.frozen (p := ⟨w.heap.size, 1, none⟩) zr).trans fr1
  replace kr2 := (hb2.cell (p := ⟨w.heap.size, 2, none⟩) zr).trans kr2
  replace fr2 := (hb2.frozen (p := ⟨w.heap.size, 2, none⟩) zr).trans fr2
  replace kr3 := (hb2.cell (p := ⟨w.heap.size, 3, none⟩) zr).trans kr3
  replace fr3 := (hb2.frozen (p := ⟨w.heap.size, 3, none⟩) zr).trans fr3
  have z2 := Nat.lt_of_lt_of_le zr hb2.size
  replace HB := hide (bl_trans HB.out hb2)
  have HC := hide hc2
  clear hb2 hc2 HR
  go_wp2_with fail
  refine (anyR _ a len cap _ HC.out).mono ?_
  rintro e w3 ⟨n, a1, c1, xs, m, b1, e1, ys, rfl, ho1, ho2, hc3, ho3⟩
  replace kr0 := (ho3.cell (p := ⟨w.heap.size, 0, none⟩) z2 (by dsimp only; omega)).trans kr0
  replace fr0 := (ho3.frozen (p := ⟨w.heap.size, 0, none⟩) z2 (by dsimp only; omega)).trans fr0
  replace kr1 := (ho3.cell (p := ⟨w.heap.size, 1, none⟩) z2 (by dsimp only; omega)).trans kr1
  replace fr1 := (ho3.frozen (p := ⟨w.heap.size, 1, none⟩) z2 (by dsimp only; omega)).trans fr1
  replace kr2 := (ho3.cell (p := ⟨w.heap.size, 2, none⟩) z2 (by dsimp only; omega)).trans kr2
  replace fr2 := (ho3.frozen (p := ⟨w.heap.size, 2, none⟩) z2 (by dsimp only; omega)).trans fr2
  replace kr3 := (ho3.cell (p := ⟨w.heap.size, 3, none⟩) z2 (by dsimp only; omega)).trans kr3
  replace fr3 := (ho3.frozen (p := ⟨w.heap.size, 3, none⟩) z2 (by dsimp only; omega)).trans fr3
  replace HB := hide (HB.out.trans (ho3.below (by omega) (by omega)))
  have O1 := hide ho1
  have O2 := hide ho2
  clear hc3 ho3 ho1 ho2 HC
  go_wp2
  refine bodyPost_ret (v := (.agg #[.bool n, .slice a1 xs.length c1, .bool m, .slice b1 ys.length e1])) (by simp [results, Tryz.results12, go_sem, kr0, kr1, kr2, kr3]) rfl ?_
  exact ⟨n, a1, c1, xs, m, b1, e1, ys, rfl, (own_four (w := w) O1.out z2 (Nat.le_refl _) _ _ _ _).seg, (own_four (w := w) O2.out z2 (Nat.le_refl _) _ _ _ _).seg, set_four (Nat.le_refl _) HB.out _ _ _ _⟩

end Go.Proofs.YtpmgpdlminacaaaGreatDoor

/- Plain facts on decimal numerals read: the number of a list of digits, and which lists are numerals; nothing of the program stands here. -/
namespace Go.Proofs.YtpmgpdlminacaaaGreatDoor
open Go

def digitB (c : Int) : Bool := decide (48 ≤ c) && decide (c ≤ 57)
theorem digit_high (c : Int) (h : 128 ≤ c) : digitB c = false := by
  rw [Bool.eq_false_iff]; simp [digitB]; omega
def valI (l : List UInt8) : Int := l.foldl (fun a c => 10 * a + ((c.toNat : Int) - 48)) 0

theorem val_snoc (l : List UInt8) (c : UInt8) : valI (l ++ [c]) = 10 * valI l + ((c.toNat : Int) - 48) := by simp [valI, List.foldl_append]

theorem rev_ind {P : List UInt8 → Prop} (h0 : P []) (h1 : ∀ l c, P l → P (l ++ [c])) (l : List UInt8) : P l := by
  rw [← List.reverse_reverse l]
  induction l.reverse with
  | nil => exact h0
  | cons c r ih => rw [List.reverse_cons]; exact h1 _ _ ih

/-- the first byte is no nought, or there is but one -/
def noLead (l : List UInt8) : Bool := match l with | [] => false | [_] => true | c :: _ :: _ => c != 48

def digAll (l : List UInt8) : Bool := l.all fun c => digitB (c.toNat : Int)

theorem dig_bounds {c : UInt8} (h : digitB (c.toNat : Int) = true) : 48 ≤ c.toNat ∧ c.toNat ≤ 57 := by
  simp [digitB] at h; omega

theorem head_pos (v : Nat) (h : 1 ≤ v) : (Lib.decDigits v).head? ≠ some 48 := by
  induction v using Nat.strongRecOn with
  | ind v ih =>
    by_cases h10 : v < 10
    · rw [Lib.decDigits_one h10]
      simp only [List.head?_cons, ne_eq, Option.some.injEq]
      intro e
      have := congrArg UInt8.toNat e
      simp at this; omega
    · have := ih (v / 10) (by omega) (by omega)
      rw [Lib.decDigits, dif_neg h10]
      cases hd : Lib.decDigits (v / 10) with
      | nil => have hl := Lib.decDigits_length (v / 10); rw [hd] at hl; have := Lib.nDigits_pos (v / 10); simp at hl; omega
      | cons a r => rw [hd] at this; simpa using this

theorem val_digits (l : List UInt8) : digAll l = true → 0 ≤ valI l ∧ (l.head? ≠ some 48 → l ≠ [] → 1 ≤ valI l) ∧ (noLead l = true → Lib.decDigits (valI l).toNat = l) := by
  induction l using rev_ind with
  | h0 => intro _; simp [valI, noLead]
  | h1 l c ih =>
    intro h
    simp only [digAll, List.all_append, Bool.and_eq_true, List.all_cons, List.all_nil, Bool.and_true] at h
    obtain ⟨hl, hc⟩ := h
    obtain ⟨i0, i1, i2⟩ := ih hl
    have hb := dig_bounds hc
    rw [val_snoc]
    cases l with
    | nil =>
      have e0 : valI [] = 0 := rfl
      rw [e0]
      refine ⟨by omega, ?_, ?_⟩
      · intro hh _
        simp only [List.nil_append, List.head?_cons, ne_eq, Option.some.injEq] at hh
        have : c.toNat ≠ 48 := fun e => hh (UInt8.toNat_inj.1 (by simpa using e))
        omega
      · intro _
        have e1 : (10 * 0 + ((c.toNat : Int) - 48)).toNat = c.toNat - 48 := by omega
        rw [e1, Lib.decDigits_one (by omega)]
        have e2 : 48 + (c.toNat - 48) = c.toNat := by omega
        rw [e2]; simp
    | cons a r =>
      refine ⟨by omega, ?_, ?_⟩
      · intro hh _
        have := i1 (by simpa using hh) (by simp)
        omega
      · intro hn
        have ha : a ≠ 48 := by
          cases r with
          | nil => simpa [noLead] using hn
          | cons b r => simpa [noLead] using hn
        have hv := i1 (by simpa using ha) (by simp)
        have hd := i2 (by cases r with
          | nil => rfl
          | cons b r => simpa [noLead] using ha)
        have e1 : (10 * valI (a :: r) + ((c.toNat : Int) - 48)).toNat = 10 * (valI (a :: r)).toNat + (c.toNat - 48) := by omega
        rw [e1, Lib.decDigits, dif_neg (by omega)]
        have e2 : (10 * (valI (a :: r)).toNat + (c.toNat - 48)) / 10 = (valI (a :: r)).toNat := by omega
        have e3 : 48 + (10 * (valI (a :: r)).toNat + (c.toNat - 48)) % 10 = c.toNat := by omega
        rw [e2, e3, hd]; simp

theorem val_lead (l : List UInt8) (hd : digAll l = true) (hn : noLead l = false) : Lib.decDigits (valI l).toNat ≠ l := by
  intro e
  cases l with
  | nil =>
    have := congrArg List.length e
    rw [Lib.decDigits_length] at this
    have := Lib.nDigits_pos (valI []).toNat
    simp_all
  | cons a r =>
    cases r with
    | nil => simp [noLead] at hn
    | cons b r =>
      have ha : a = 48 := by simpa [noLead] using hn
      by_cases hv : 1 ≤ (valI (a :: b :: r)).toNat
      · have := head_pos _ hv
        rw [e] at this; simp [ha] at this
      · have e0 : (valI (a :: b :: r)).toNat = 0 := by omega
        rw [e0, Lib.decDigits_one (by decide)] at e
        simp at e


/-- the number of a list of digits -/
def valN (l : List UInt8) : Nat := l.foldl (fun a c => 10 * a + (c.toNat - 48)) 0
theorem valN_snoc (l : List UInt8) (c : UInt8) : valN (l ++ [c]) = 10 * valN l + (c.toNat - 48) := by simp [valN, List.foldl_append]
theorem valI_N (l : List UInt8) (h : digAll l = true) : valI l = (valN l : Int) := by
  induction l using rev_ind with
  | h0 => rfl
  | h1 l c ih =>
    simp only [digAll, List.all_append, Bool.and_eq_true, List.all_cons, List.all_nil, Bool.and_true] at h
    have hb := dig_bounds h.2
    rw [val_snoc, valN_snoc, ih h.1]; omega
theorem valN_lt (l : List UInt8) (h : digAll l = true) : valN l < 10 ^ l.length := by
  induction l using rev_ind with
  | h0 => simp [valN]
  | h1 l c ih =>
    simp only [digAll, List.all_append, Bool.and_eq_true, List.all_cons, List.all_nil, Bool.and_true] at h
    have hb := dig_bounds h.2
    have := ih h.1
    rw [valN_snoc, List.length_append, List.length_singleton, Nat.pow_succ]; omega
theorem dec_val (l : List UInt8) (h : digAll l = true) : Lib.decDigits (valN l) = l ↔ noLead l = true := by
  have e : (valI l).toNat = valN l := by rw [valI_N l h]; simp
  constructor
  · intro hd
    cases hn : noLead l with
    | true => rfl
    | false => have := val_lead l h hn; rw [e] at this; exact absurd hd this
  · intro hn
    have := (val_digits l h).2.2 hn
    rw [e] at this; exact this
end Go.Proofs.YtpmgpdlminacaaaGreatDoor
