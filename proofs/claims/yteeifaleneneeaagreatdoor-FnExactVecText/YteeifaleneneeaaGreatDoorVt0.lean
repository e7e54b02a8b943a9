/- Numbers of VecText: the text of powers, step by step. -/
import Derived.Test.YteeifaleneneeaaGreatDoorRatTI
import Derived.Test.YteeifaleneneeaaGreatDoorPk15
import Derived.Test.YteeifaleneneeaaGreatDoorNmB
import Derived.Test.YteeifaleneneeaaGreatDoorPk02
import Derived.Test.YteeifaleneneeaaGreatDoorPk06
import Derived.Test.YteeifaleneneeaaGreatDoorTxN
namespace Go.Proofs.YteeifaleneneeaaGreatDoor
open Go.RowKit
set_option linter.unusedVariables false

/-- the text of a power behind its name -/
def upT (x d : Int) : ByteArray := if x = d then ⟨#[]⟩ else ⟨#[94]⟩ ++ ratT (sgn (x / sgG x d)) (lms (x / sgG x d)) (sgn (d / sgG x d)) (lms (d / sgG x d))
/-- the bytes behind the first names -/
def vk (den : Int) (xs : List Int) (ts : List ByteArray) : Nat → List UInt8
  | 0 => []
  | k + 1 => if V.at8 xs k = 0 then vk den xs ts k else (if (vk den xs ts k).length = 0 then [] else vk den xs ts k ++ [32]) ++ (ts.getD k ⟨#[]⟩).data.toList ++ (upT (V.at8 xs k) den).data.toList
/-- whether the text is told at all -/
def vtB (den : Int) (xs : List Int) (ts : List ByteArray) : Bool := V.vokB den xs && decide (ts.length = xs.length) && ts.all nameOkB
def vtxt (den : Int) (xs : List Int) (ts : List ByteArray) : ByteArray :=
  if vtB den xs ts = true then (if (vk den xs ts ts.length).length = 0 then ⟨#[49]⟩ else ⟨(vk den xs ts ts.length).toArray⟩) else ⟨#[]⟩
theorem bsz (s : ByteArray) : s.data.toList.length = s.size := by rw [Array.length_toList]; rfl
theorem it_le {z : Int} (h : z.natAbs < 10 ^ 10) : (itB z).size ≤ 11 := by
  have e : (itB z).size = (Lib.itoa z).length := by rw [← bsz]; rfl
  rw [e]
  have key : ∀ u : Nat, u < 10 ^ 10 → (Lib.decDigits u).length ≤ 10 := fun u hu => TxN.dec_len_le 9 u (by omega)
  unfold Lib.itoa
  split
  · have := key z.natAbs (by omega)
    have := key (-z).toNat (by omega)
    simp only [List.length_cons]
    omega
  · have := key z.toNat (by omega)
    have := key z.natAbs (by omega)
    omega
theorem mk_lm (z : Int) : mk (sgn z) (Num.nat (lms z)) = z := by rw [nat_lms, mk_self]
theorem rat_le {p q : Int} (hp : p.natAbs < 10 ^ 10) (hq : q.natAbs < 10 ^ 10) : (ratT (sgn p) (lms p) (sgn q) (lms q)).size ≤ 23 := by
  unfold ratT
  rw [mk_lm, mk_lm]
  have e1 := it_le hp
  have e2 := it_le hq
  split
  · split
    · omega
    · rw [ByteArray.size_append, ByteArray.size_append]
      show (itB p).size + 1 + (itB q).size ≤ 23
      omega
  · show 0 ≤ 23
    omega
theorem quo_le (x g : Int) : (x / g).natAbs ≤ x.natAbs := Int.natAbs_ediv_le_natAbs x g
theorem up_le {x d : Int} (hx : x.natAbs < 10 ^ 10) (hd : d.natAbs < 10 ^ 10) : (upT x d).size ≤ 24 := by
  unfold upT
  split
  · show 0 ≤ 24; omega
  · rw [ByteArray.size_append]
    have := rat_le (p := x / sgG x d) (q := d / sgG x d) (Nat.lt_of_le_of_lt (quo_le _ _) hx) (Nat.lt_of_le_of_lt (quo_le _ _) hd)
    show 1 + _ ≤ 24
    omega
theorem name_short {s : ByteArray} (h : nameOkB s = true) : s.size ≤ 12 ∧ 1 ≤ s.size := by
  unfold nameOkB at h; simp only [Bool.and_eq_true, decide_eq_true_eq] at h
  exact ⟨h.1.1, first_size s h.1.2⟩
theorem vk_zero {den : Int} {xs : List Int} {ts : List ByteArray} {k : Nat} (h : V.at8 xs k = 0) : vk den xs ts (k + 1) = vk den xs ts k := by
  show (if _ then _ else _) = _
  rw [if_pos h]
theorem vk_first {den : Int} {xs : List Int} {ts : List ByteArray} {k : Nat} (hk : k < ts.length) (h : V.at8 xs k ≠ 0) (h0 : (vk den xs ts k).length = 0) : vk den xs ts (k + 1) = ts[k].data.toList ++ (upT (V.at8 xs k) den).data.toList := by
  show (if _ then _ else _) = _
  rw [if_neg h, if_pos h0, List.getD_eq_getElem?_getD, List.getElem?_eq_getElem hk]; rfl
theorem vk_more {den : Int} {xs : List Int} {ts : List ByteArray} {k : Nat} (hk : k < ts.length) (h : V.at8 xs k ≠ 0) (h0 : (vk den xs ts k).length ≠ 0) : vk den xs ts (k + 1) = vk den xs ts k ++ [32] ++ ts[k].data.toList ++ (upT (V.at8 xs k) den).data.toList := by
  show (if _ then _ else _) = _
  rw [if_neg h, if_neg h0, List.getD_eq_getElem?_getD, List.getElem?_eq_getElem hk]; rfl
theorem vk_len {den : Int} {xs : List Int} {ts : List ByteArray} (hd : 1 ≤ den ∧ den ≤ 720) (hx : ∀ j, -100000 ≤ V.at8 xs j ∧ V.at8 xs j ≤ 100000) : ∀ k, k ≤ ts.length → (∀ j (h : j < ts.length), j < k → ts[j].size ≤ 12) → (vk den xs ts k).length ≤ 40 * k := by
  intro k
  induction k with
  | zero => intro _ _; exact Nat.le_refl _
  | succ k ih =>
    intro hk hn
    have h1 := ih (by omega) (fun j h hj => hn j h (by omega))
    have hkx : k < ts.length := by omega
    by_cases h : V.at8 xs k = 0
    · rw [vk_zero h]; omega
    · have hxk := hx k
      have hu := up_le (x := V.at8 xs k) (d := den) (by omega) (by omega)
      have ht := hn k hkx (by omega)
      by_cases h0 : (vk den xs ts k).length = 0
      · rw [vk_first hkx h h0, List.length_append, bsz, bsz]; omega
      · rw [vk_more hkx h h0, List.length_append, List.length_append, List.length_append, bsz, bsz]
        show _ + 1 + _ + _ ≤ _
        omega
/-- no byte as long as there are noughts alone -/
theorem vk_none {den : Int} {xs : List Int} {ts : List ByteArray} (hn : ∀ j (h : j < ts.length), 1 ≤ ts[j].size) : ∀ k, k ≤ ts.length → ((vk den xs ts k).length = 0 ↔ ∀ j, j < k → V.at8 xs j = 0) := by
  intro k
  induction k with
  | zero => intro _; exact ⟨fun _ j h => absurd h (Nat.not_lt_zero _), fun _ => rfl⟩
  | succ k ih =>
    intro hk
    have ih := ih (by omega)
    have hkx : k < ts.length := by omega
    by_cases h : V.at8 xs k = 0
    · rw [vk_zero h, ih]
      constructor
      · intro hh j hj
        by_cases e : j = k
        · rw [e]; exact h
        · exact hh j (by omega)
      · intro hh j hj; exact hh j (by omega)
    · have := hn k hkx
      constructor
      · intro hh
        exfalso
        by_cases h0 : (vk den xs ts k).length = 0
        · rw [vk_first hkx h h0, List.length_append, bsz] at hh; omega
        · rw [vk_more hkx h h0, List.length_append, List.length_append, bsz] at hh; omega
      · intro hh; exact absurd (hh k (by omega)) h
theorem all_at {ts : List ByteArray} (h : ts.all nameOkB = true) (j : Nat) (hj : j < ts.length) : nameOkB ts[j] = true := by
  rw [List.all_eq_true] at h; exact h _ (List.getElem_mem hj)
theorem at_big {xs : List Int} {d : Int} (h : V.vokB d xs = true) : (1 ≤ d ∧ d ≤ 720) ∧ xs.length ≤ 8 ∧ ∀ j, -100000 ≤ V.at8 xs j ∧ V.at8 xs j ≤ 100000 := by
  unfold V.vokB V.rgtB at h
  simp only [Bool.and_eq_true, decide_eq_true_eq] at h
  refine ⟨h.2.1.1, h.1, fun j => ?_⟩
  by_cases hj : j < 8
  · exact (V.winB_iff _ _).1 h.2.1.2 j hj
  · rw [V.at8_ge (by omega)]; omega
end Go.Proofs.YteeifaleneneeaaGreatDoor
