/- What a map of names to their places reads as. -/
import Derived.Test.YtnjaejaibbgkpaaGreatPk01
import Derived.Maps.OwnSet
import Derived.WideShapes
namespace Go.Proofs.YtnjaejaibbgkpaaGreat
open Go.RowKit Go.Maps
set_option linter.unusedVariables false
set_option maxRecDepth 20000

theorem nodup_rev {ts : List ByteArray} (h : ts.Nodup) : ts.reverse.Nodup := by
  unfold List.Nodup at h ⊢
  rw [List.pairwise_reverse]
  exact h.imp (fun h => Ne.symm h)
def kl (s : ByteArray) : Lit := .string s.data.toList
theorem kl_inj {a b : ByteArray} (h : kl a = kl b) : a = b := by
  unfold kl at h
  exact Go.WideShapes.bytes_inj (Lit.string.inj h)
theorem kl_key (s : ByteArray) : WideAt.IsKeyLit (kl s) := trivial
/-- of names told backwards -/
def mapR : List ByteArray → DataW Unit
  | [] => .map []
  | s :: r => (mapR r).put (kl s) (.lit (.int .i64 r.length))
def mapD (ts : List ByteArray) : DataW Unit := mapR ts.reverse
theorem mapD_snoc (ts : List ByteArray) (s : ByteArray) : mapD (ts ++ [s]) = (mapD ts).put (kl s) (.lit (.int .i64 ts.length)) := by
  unfold mapD
  rw [List.reverse_append]
  simp only [List.reverse_cons, List.reverse_nil, List.nil_append, List.cons_append, mapR, List.length_reverse]
theorem mapR_tidy : ∀ r, Tidy (mapR r)
  | [] => tidy_empty
  | s :: r => (mapR_tidy r).put (kl_key s) _
/-- is it one of them? -/
def inB (s : ByteArray) (ts : List ByteArray) : Bool := ts.any (fun t => decide (t = s))
theorem inB_iff (s : ByteArray) (ts : List ByteArray) : inB s ts = true ↔ s ∈ ts := by
  unfold inB
  rw [List.any_eq_true]
  constructor
  · rintro ⟨t, ht, e⟩; rw [← of_decide_eq_true e]; exact ht
  · intro h; exact ⟨s, h, by simp⟩
theorem inB_no {s : ByteArray} {ts : List ByteArray} (h : s ∉ ts) : inB s ts = false := by
  rw [Bool.eq_false_iff]; exact fun e => h ((inB_iff s ts).1 e)
theorem mapR_has (s : ByteArray) : ∀ r, has (mapR r) (kl s) = inB s r
  | [] => rfl
  | t :: r => by
    by_cases e : s = t
    · subst e
      rw [mapR, has_put_same (mapR_tidy r).isMap (kl_key s), (inB_iff s (s :: r)).2 (by simp)]
    · rw [mapR, has_put_other (fun h => e (kl_inj h)), mapR_has s r]
      unfold inB
      rw [List.any_cons, decide_eq_false (fun h => e h.symm), Bool.false_or]
theorem mapD_has (ts : List ByteArray) (s : ByteArray) : has (mapD ts) (kl s) = inB s ts := by
  unfold mapD; rw [mapR_has, Bool.eq_iff_iff, inB_iff, inB_iff]; simp
theorem mapR_size : ∀ r : List ByteArray, r.Nodup → size (mapR r) = r.length
  | [], _ => rfl
  | t :: r, h => by
    have h' := List.nodup_cons.1 h
    rw [mapR, size_put (mapR_tidy r), mapR_has, inB_no h'.1, mapR_size r h'.2]; rfl
theorem mapD_size (ts : List ByteArray) (h : ts.Nodup) : size (mapD ts) = ts.length := by
  unfold mapD; rw [mapR_size _ (nodup_rev h)]; simp
theorem mapR_at (z : DataW Unit) : ∀ (r : List ByteArray), r.Nodup → ∀ i (hi : i < r.length), (mapR r).atKey (kl r[i]) z = .lit (.int .i64 ((r.length - 1 - i : Nat) : Int))
  | [], _, i, hi => by simp at hi
  | t :: r, h, 0, _ => by
    rw [mapR]
    simp only [List.getElem_cons_zero]
    rw [atKey_put_same (mapR_tidy r).isMap (kl_key t)]
    simp
  | t :: r, h, i + 1, hi => by
    have h' := List.nodup_cons.1 h
    simp only [List.getElem_cons_succ]
    have hi' : i < r.length := by simpa using hi
    rw [mapR, atKey_put_other (fun e => h'.1 (by rw [← kl_inj e]; exact List.getElem_mem _)), mapR_at z r h'.2 i hi']
    congr 3
    simp only [List.length_cons]
    omega
theorem mapD_at (z : DataW Unit) (ts : List ByteArray) (h : ts.Nodup) (i : Nat) (hi : i < ts.length) : (mapD ts).atKey (kl ts[i]) z = .lit (.int .i64 (i : Int)) := by
  have hl : ts.length - 1 - i < ts.reverse.length := by simp; omega
  have := mapR_at z ts.reverse (nodup_rev h) (ts.length - 1 - i) hl
  rw [List.getElem_reverse] at this
  have e1 : ts.length - 1 - (ts.length - 1 - i) = i := by omega
  simp only [e1, List.length_reverse] at this
  exact this
theorem mapD_not (z : DataW Unit) (ts : List ByteArray) (s : ByteArray) (h : s ∉ ts) : (mapD ts).atKey (kl s) z = z := by
  exact atKey_of_not_has (by rw [mapD_has]; exact inB_no h) z

/-- block B is a map of these names to their places -/
def MapN (w : World) (B : Nat) (ts : List ByteArray) : Prop := w.ownsMap Tryz.prog 9 (plainElem (H := Unit) Tryz.prog 3) B ts.length (mapD ts)
theorem MapN.lt {w : World} {B : Nat} {ts : List ByteArray} (h : MapN w B ts) : B < w.heap.size := World.ownsMap.lt h
theorem MapN.below {w w' : World} {B : Nat} {ts : List ByteArray} (h : MapN w B ts) (hb : Below w.heap.size w w') : MapN w' B ts := World.ownsMap.kept h (grown_of_below hb) (by simp)
theorem MapN.grown {w w' : World} {B : Nat} {ts : List ByteArray} {r : Option Nat} (h : MapN w B ts) (hb : w.grownBy w' r) (hr : some B ≠ r) : MapN w' B ts := World.ownsMap.kept h hb hr
theorem lawS : Keyed Tryz.prog 9 := string_keyed Tryz.underlying9
theorem zeroI (w : World) : (zeroValue 3).run Tryz.prog w = .ok (.int .i64 0) w := by kernel_rfl
end Go.Proofs.YtnjaejaibbgkpaaGreat
