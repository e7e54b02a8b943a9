/- Plain facts on the parts of a list of bytes between those that cut it; nothing of the program stands here, but that a rune of more than one byte holds no byte below 128. -/
import Derived.Lib.DecodeN
import Derived.Laws.RangeAny
namespace Go.Proofs.Ythjglbimkfajlaa.Split
set_option linter.unusedVariables false

def addHead (x : List UInt8) (ls : List (List UInt8)) : List (List UInt8) := match ls with
  | [] => [x]
  | h :: t => (x ++ h) :: t
def splitB (p : UInt8 → Bool) : List UInt8 → List (List UInt8)
  | [] => [[]]
  | c :: r => if p c then [] :: splitB p r else addHead [c] (splitB p r)
theorem split_ne (p : UInt8 → Bool) (l : List UInt8) : splitB p l ≠ [] := by
  cases l with
  | nil => simp [splitB]
  | cons c r =>
    unfold splitB
    split
    · simp
    · unfold addHead; split <;> simp
theorem addHead_nil (ls : List (List UInt8)) (h : ls ≠ []) : addHead [] ls = ls := by
  cases ls with
  | nil => exact absurd rfl h
  | cons a t => rfl
theorem addHead_add (x y : List UInt8) (ls : List (List UInt8)) (h : ls ≠ []) : addHead x (addHead y ls) = addHead (x ++ y) ls := by
  cases ls with
  | nil => exact absurd rfl h
  | cons a t => simp [addHead]
theorem addHead_ne (x : List UInt8) (ls : List (List UInt8)) : addHead x ls ≠ [] := by cases ls <;> simp [addHead]
theorem split_skip (p : UInt8 → Bool) (y r : List UInt8) (h : ∀ c ∈ y, p c = false) : splitB p (y ++ r) = addHead y (splitB p r) := by
  induction y with
  | nil => exact (addHead_nil _ (split_ne p r)).symm
  | cons c y ih =>
    rw [List.cons_append, splitB, h c (by simp), if_neg (by simp), ih (fun c hc => h c (by simp [hc])), addHead_add _ _ _ (split_ne p r)]
    rfl
theorem split_length (p : UInt8 → Bool) (l : List UInt8) : (splitB p l).length ≤ l.length + 1 := by
  induction l with
  | nil => simp [splitB]
  | cons c r ih =>
    unfold splitB
    split
    · simp; omega
    · cases h : splitB p r with
      | nil => simp [addHead]
      | cons a t => rw [h] at ih; simp [addHead] at ih ⊢; omega

/-- from the part that began at 'start', read up to 'pos' -/
def Inv (p : UInt8 → Bool) (l : List UInt8) (pre : List (List UInt8)) (start pos : Nat) : Prop :=
  start ≤ pos ∧ pre ++ addHead ((l.drop start).take (pos - start)) (splitB p (l.drop pos)) = splitB p l
theorem inv_start (p : UInt8 → Bool) (l : List UInt8) : Inv p l [] 0 0 := ⟨Nat.le_refl _, by simp [addHead_nil _ (split_ne p l)]⟩
theorem inv_cut {p : UInt8 → Bool} {l : List UInt8} {pre : List (List UInt8)} {start pos : Nat} (h : Inv p l pre start pos) (hp : pos < l.length) (hc : p l[pos] = true) :
    Inv p l (pre ++ [(l.drop start).take (pos - start)]) (pos + 1) (pos + 1) := by
  refine ⟨Nat.le_refl _, ?_⟩
  rw [← h.2, List.drop_eq_getElem_cons hp, splitB, if_pos hc, Nat.sub_self, List.take_zero, addHead_nil _ (split_ne p _)]
  simp [addHead]
theorem inv_skip {p : UInt8 → Bool} {l : List UInt8} {pre : List (List UInt8)} {start pos wd : Nat} (h : Inv p l pre start pos) (hw : pos + wd ≤ l.length) (hc : ∀ c ∈ (l.drop pos).take wd, p c = false) :
    Inv p l pre start (pos + wd) := by
  refine ⟨by have := h.1; omega, ?_⟩
  have h1 := h.1
  have e : l.drop pos = (l.drop pos).take wd ++ l.drop (pos + wd) := by rw [← List.drop_drop]; exact (List.take_append_drop _ _).symm
  have e2 : (l.drop start).take (pos + wd - start) = (l.drop start).take (pos - start) ++ (l.drop pos).take wd := by
    have : pos + wd - start = (pos - start) + wd := by omega
    rw [this, List.take_add, List.drop_drop, show start + (pos - start) = pos by omega]
  rw [← h.2, e2]
  conv => rhs; rw [e, split_skip p _ _ hc, addHead_add _ _ _ (split_ne p _)]
theorem inv_one {p : UInt8 → Bool} {l : List UInt8} {pre : List (List UInt8)} {start pos : Nat} (h : Inv p l pre start pos) (hp : pos < l.length) (hc : p l[pos] = false) : Inv p l pre start (pos + 1) :=
  inv_skip (wd := 1) h (by omega) (fun c hc' => by
    rw [List.drop_eq_getElem_cons hp] at hc'
    simp only [List.take_succ_cons, List.take_zero, List.mem_singleton] at hc'
    rw [hc']; exact hc)
theorem inv_end {p : UInt8 → Bool} {l : List UInt8} {pre : List (List UInt8)} {start pos : Nat} (h : Inv p l pre start pos) (hp : l.length ≤ pos) : pre ++ [l.drop start] = splitB p l := by
  have e : l.drop pos = [] := List.drop_eq_nil_of_le hp
  have e2 : (l.drop start).take (pos - start) = l.drop start := List.take_of_length_le (by simp; omega)
  have h2 := h.2
  rw [e, e2, splitB] at h2
  rw [← h2]; simp [addHead]
theorem inv_len {p : UInt8 → Bool} {l : List UInt8} {pre : List (List UInt8)} {start pos : Nat} (h : Inv p l pre start pos) : pre.length < (splitB p l).length := by
  rw [← h.2, List.length_append]
  cases hh : addHead ((l.drop start).take (pos - start)) (splitB p (l.drop pos)) with
  | nil => exact absurd hh (addHead_ne _ _)
  | cons a t => simp

set_option maxHeartbeats 1000000 in
/-- a rune whose first byte is 128 or more: none of its bytes is below 128, and it ends within the text -/
theorem wide (s : ByteArray) (pos : Nat) (h : pos < s.size) (hb : 128 ≤ s[pos].toNat) :
    pos + (Utf8.decode s pos).2 ≤ s.size ∧ ∀ c ∈ (s.data.toList.drop pos).take (Utf8.decode s pos).2, 128 ≤ c.toNat := by
  have hg : ∀ k (hk : pos + k < s.size), s.get! (pos + k) = s.data.toList[pos + k]'(by simpa using hk) := fun k hk => by
    show s.data[pos + k]! = _
    simp [hk]
  have key : ∀ n, n ≤ 4 → (∀ k, k < n → ∃ hk : pos + k < s.size, 128 ≤ (s.get! (pos + k)).toNat) →
      pos + n ≤ s.size + 0 * n ∧ ∀ c ∈ (s.data.toList.drop pos).take n, 128 ≤ c.toNat := fun n _ hn => by
    refine ⟨?_, fun c hc => ?_⟩
    · cases n with
      | zero => omega
      | succ n => obtain ⟨hk, _⟩ := hn n (by omega); omega
    · obtain ⟨i, hi, rfl⟩ := List.getElem_of_mem hc
      rw [List.length_take] at hi
      obtain ⟨hk, hv⟩ := hn i (by omega)
      rw [hg i hk] at hv
      simpa using hv
  have h0 : 128 ≤ (s.get! (pos + 0)).toNat := by rw [hg 0 h]; exact hb
  rw [Lib.decode_at]
  have goal : ∀ w, w ≤ 4 → (∀ k, k < w → ∃ hk : pos + k < s.size, 128 ≤ (s.get! (pos + k)).toNat) → pos + w ≤ s.size ∧ ∀ c ∈ (s.data.toList.drop pos).take w, 128 ≤ c.toNat := fun w hw hk => by
    have := key w hw hk; simpa using this
  have one : pos + 1 ≤ s.size ∧ ∀ c ∈ (s.data.toList.drop pos).take 1, 128 ≤ c.toNat := goal 1 (by omega) (fun k hk => match k, hk with
    | 0, _ => ⟨h, h0⟩)
  unfold Lib.decodeN
  split
  · exact one
  split
  · rename_i hc
    split
    · refine goal 2 (by omega) (fun k hk => ?_)
      match k, hk with
      | 0, _ => exact ⟨h, h0⟩
      | 1, _ => exact ⟨by omega, by omega⟩
    · exact one
  split
  · rename_i hc
    split
    · refine goal 3 (by omega) (fun k hk => ?_)
      match k, hk with
      | 0, _ => exact ⟨h, h0⟩
      | 1, _ => exact ⟨by omega, by omega⟩
      | 2, _ => exact ⟨by omega, by omega⟩
    · exact one
  split
  · rename_i hc
    split
    · refine goal 4 (by omega) (fun k hk => ?_)
      match k, hk with
      | 0, _ => exact ⟨h, h0⟩
      | 1, _ => exact ⟨by omega, by omega⟩
      | 2, _ => exact ⟨by omega, by omega⟩
      | 3, _ => exact ⟨by omega, by omega⟩
    · exact one
  · exact one
end Go.Proofs.Ythjglbimkfajlaa.Split
