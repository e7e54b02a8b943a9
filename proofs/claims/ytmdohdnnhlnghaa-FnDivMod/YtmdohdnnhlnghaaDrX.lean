/- The walk of a draw of any number, not right sometimes: its state. -/
import Derived.Test.YtmdohdnnhlnghaaDrS
import Derived.Lib.Builder
namespace Go.Proofs.Ytmdohdnnhlnghaa
open Go.RowKit
set_option linter.unusedVariables false

theorem grown_st (W : World) (p : Addr) (v : Value) : W.grownBy (W.setCell p v) (some p.block) :=
  ⟨rfl, rfl, rfl, by simp [World.setCell], fun k _ hn => Below.heap_setCell _ _ _ _ (fun e => hn (by rw [e]))⟩
/-- any drawn sign and limbs -/
def AnyD (w : World) (B : Nat) (a : Option Addr) (len cap : Nat) (w' : World) (e : Ending) : Prop :=
  ∃ n' a' c' xs, e = .returned (.agg #[.bool n', .slice a' xs.length c']) ∧ xs.length ≤ 41 ∧ Own w' w.heap.size a' xs.length c' xs ∧ Cur B a len cap w' ∧ Only B w w'
/-- in the midst of it: the box x holds a sign and limbs -/
structure Xst (w : World) (B : Nat) (a : Option Addr) (len cap : Nat) (X : Nat) (n' : Bool) (a' : Option Addr) (c' : Nat) (xs : List Nat) (wr : World) : Prop where
  d : Dst w B a len cap wr
  hx : wr.heap[X]? = some (.cells #[.bool n', .slice a' xs.length c'] 26 (0, 0))
  wx : w.heap.size < X
  own : Own wr (w.heap.size + 1) a' xs.length c' xs
theorem Xst.zx {w wr : World} {B : Nat} {a : Option Addr} {len cap : Nat} {X : Nat} {n' : Bool} {a' : Option Addr} {c' : Nat} {xs : List Nat} (h : Xst w B a len cap X n' a' c' xs wr) : X < wr.heap.size := (Array.getElem?_eq_some_iff.1 h.hx).1
theorem Xst.x0 {w wr : World} {B : Nat} {a : Option Addr} {len cap : Nat} {X : Nat} {n' : Bool} {a' : Option Addr} {c' : Nat} {xs : List Nat} (h : Xst w B a len cap X n' a' c' xs wr) : wr.cell? ⟨X, 0, none⟩ = some (.bool n') := (Lib.cell_of_heap h.hx 0).trans rfl
theorem Xst.x1 {w wr : World} {B : Nat} {a : Option Addr} {len cap : Nat} {X : Nat} {n' : Bool} {a' : Option Addr} {c' : Nat} {xs : List Nat} (h : Xst w B a len cap X n' a' c' xs wr) : wr.cell? ⟨X, 1, none⟩ = some (.slice a' xs.length c') := (Lib.cell_of_heap h.hx 1).trans rfl
theorem Xst.f0 {w wr : World} {B : Nat} {a : Option Addr} {len cap : Nat} {X : Nat} {n' : Bool} {a' : Option Addr} {c' : Nat} {xs : List Nat} (h : Xst w B a len cap X n' a' c' xs wr) (j : Nat) : wr.frozen? ⟨X, j, none⟩ = false := Lib.frozen_of_heap h.hx j
theorem Xst.off {w wr : World} {B : Nat} {a : Option Addr} {len cap : Nat} {X : Nat} {n' : Bool} {a' : Option Addr} {c' : Nat} {xs : List Nat} (h : Xst w B a len cap X n' a' c' xs wr) : (Value.slice a' xs.length c').ownBlock ≠ some X := Lib.ownBlock_ne h.own.1 h.hx (by decide)
theorem Xst.on {w2 : World} {w wr : World} {B : Nat} {a : Option Addr} {len cap : Nat} {X : Nat} {n' : Bool} {a' : Option Addr} {c' : Nat} {xs : List Nat} (h : Xst w B a len cap X n' a' c' xs wr) (hB : B < w.heap.size) (hc : Cur B a len cap w2) (ho : Only B wr w2) : Xst w B a len cap X n' a' c' xs w2 := by
  have hx := h.wx
  exact ⟨h.d.on hB hc ho, (ho.block X h.zx (by omega)).trans h.hx, hx, h.own.only ho (by omega)⟩
/-- a limb appended, and the list laid back into the box -/
theorem Xst.app {wn : World} {o : Obj} {v : Nat} {a1 : Option Addr} {c1 : Nat} {w wr : World} {B : Nat} {a : Option Addr} {len cap : Nat} {X : Nat} {n' : Bool} {a' : Option Addr} {c' : Nat} {xs : List Nat} (h : Xst w B a len cap X n' a' c' xs wr) (hB : B < w.heap.size) (hv : v < 4294967296) (hg : (wr.alloc o).grownBy wn (Value.slice a' xs.length c').ownBlock)
    (hown : wn.ownsRow (w.heap.size + 1) 41 1 (.slice a1 (xs.length + 1) c1) (xs.length + 1) (xs.map lim ++ [.int .u32 v])) :
    wn.cell? ⟨X, 1, none⟩ = some (.slice a' xs.length c') ∧ wn.frozen? ⟨X, 1, none⟩ = false ∧ Xst w B a len cap X n' a1 c1 (xs ++ [v]) (wn.setCell ⟨X, 1, none⟩ (.slice a1 (xs.length + 1) c1)) := by
  have hx := h.wx
  have hz := h.zx
  have hb := bl_alloc (bl_refl wr) o
  have hzA : X < (wr.alloc o).heap.size := Nat.lt_of_lt_of_le hz hb.size
  have hk : wn.heap[X]? = some (.cells #[.bool n', .slice a' xs.length c'] 26 (0, 0)) := (hg.block X hzA (fun e => h.off e.symm)).trans ((hb.block X hz).trans h.hx)
  have hd : Dst w B a len cap wn := (h.d.bel hb).gr hB hg (fun j e => (h.own.1.lt j e).1)
  have hne : (Value.slice a1 (xs.length + 1) c1).ownBlock ≠ some X := Lib.ownBlock_ne hown hk (by decide)
  refine ⟨(Lib.cell_of_heap hk 1).trans rfl, Lib.frozen_of_heap hk 1, ⟨hd.gr hB (grown_st wn ⟨X, 1, none⟩ _) (fun k e => by injection e with e; dsimp only at e; omega), ?_, hx, ?_⟩⟩
  · rw [List.length_append]; simp [World.setCell, Array.getElem?_modify, hk]
  · rw [List.length_append]
    refine ⟨?_, fun y hy => by rcases List.mem_append.1 hy with h' | h'; exact h.own.2 y h'; simp at h'; omega⟩
    rw [List.map_append]
    exact World.ownsRow.kept hown (grown_st wn ⟨X, 1, none⟩ (.slice a1 (xs.length + 1) c1)) (.inr hne)
/-- the sign turned -/
theorem Xst.sign {w wr : World} {B : Nat} {a : Option Addr} {len cap : Nat} {X : Nat} {n' : Bool} {a' : Option Addr} {c' : Nat} {xs : List Nat} (h : Xst w B a len cap X n' a' c' xs wr) (hB : B < w.heap.size) (m : Bool) : Xst w B a len cap X m a' c' xs (wr.setCell ⟨X, 0, none⟩ (.bool m)) := by
  have hx := h.wx
  have hk := h.hx
  exact ⟨h.d.gr hB (grown_st wr ⟨X, 0, none⟩ _) (fun k e => by injection e with e; dsimp only at e; omega), by simp [World.setCell, Array.getElem?_modify, hk], hx, ⟨World.ownsRow.kept h.own.1 (grown_st wr ⟨X, 0, none⟩ (.bool m)) (.inr h.off), h.own.2⟩⟩
theorem Xst.fin {w wr : World} {B : Nat} {a : Option Addr} {len cap : Nat} {X : Nat} {n' : Bool} {a' : Option Addr} {c' : Nat} {xs : List Nat} (h : Xst w B a len cap X n' a' c' xs wr) (hB : B < w.heap.size) (hl : xs.length ≤ 41) (x y : Value) : AnyD w B a len cap ((wr.setCell ⟨w.heap.size, 0, none⟩ x).setCell ⟨w.heap.size, 1, none⟩ y) (.returned (.agg #[.bool n', .slice a' xs.length c'])) :=
  ⟨n', a', c', xs, rfl, hl, fin_two h.own (Nat.lt_succ_self _) (Nat.le_refl _) _ _, (h.d.fin hB x y).1, (h.d.fin hB x y).2⟩
end Go.Proofs.Ytmdohdnnhlnghaa
