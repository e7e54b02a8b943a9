/- The walks of cutPlaces, readQuotient, readDecimal and ReadRat of the program, at texts of digits with a stroke or none. -/
import Derived.Test.YtbcokpnhhjjedaaGreatDoorPk16
import Derived.Test.YtbcokpnhhjjedaaGreatDoorCutR
import Derived.Test.YtbcokpnhhjjedaaGreatDoorPk15
import Derived.Test.YtbcokpnhhjjedaaGreatDoorPk13
namespace Go.Proofs.YtbcokpnhhjjedaaGreatDoor
open Go.RowKit
set_option linter.unusedVariables false

/-- internal/bytealg.MaxLen holds some int -/
def Mx (w : World) : Prop := ∃ m : Int, w.cell? ⟨0, 0, none⟩ = some (.int .i64 m)
theorem Mx.below {w w' : World} (h : Mx w) (hb : Below w.heap.size w w') : Mx w' := by
  obtain ⟨m, hm⟩ := h
  exact ⟨m, (hb.cell (p := ⟨0, 0, none⟩) (World.block_lt_of_cell? w ⟨0, 0, none⟩ hm)).trans hm⟩
theorem cutI (s : ByteArray) (c : UInt8) (w : World) (hs : s.size ≤ 1000) (hm : Mx w) :
    Calls Tryz.prog 20 #[.string s, .string ⟨#[c]⟩] w fun e w' => e = .returned (.tuple #[.string ⟨(Lib.cut s.data.toList [c]).1.toArray⟩, .string ⟨(Lib.cut s.data.toList [c]).2.1.toArray⟩, .bool (Lib.cut s.data.toList [c]).2.2]) ∧ Below w.heap.size w w' := by
  obtain ⟨m, hm⟩ := hm
  refine (Tryz.strings_Cut s ⟨#[c]⟩ m w (by omega) hm).mono ?_
  rintro e w' ⟨he, n, hn⟩
  exact ⟨he, by rw [hn]; exact below_drewN (bl_refl w) n⟩
theorem cel4 {w1 : World} {N : Nat} {p : Addr} (h : p.block ≠ N) (x y z t : Value) : ((((w1.setCell ⟨N, 0, none⟩ x).setCell ⟨N, 1, none⟩ y).setCell ⟨N, 2, none⟩ z).setCell ⟨N, 3, none⟩ t).cell? p = w1.cell? p :=
  World.cell?_of_block ((Below.heap_setCell _ ⟨N, 3, none⟩ _ p.block h).trans ((Below.heap_setCell _ ⟨N, 2, none⟩ _ p.block h).trans ((Below.heap_setCell _ ⟨N, 1, none⟩ _ p.block h).trans (Below.heap_setCell _ ⟨N, 0, none⟩ _ p.block h))))
theorem own_four' {w1 : World} {N b n c lo : Nat} {a : Option Addr} {xs : List Nat} (h : Own w1 b a n c xs) (hN : N < b) (hlo : lo ≤ b) (x y z t : Value) : Own ((((w1.setCell ⟨N, 0, none⟩ x).setCell ⟨N, 1, none⟩ y).setCell ⟨N, 2, none⟩ z).setCell ⟨N, 3, none⟩ t) lo a n c xs :=
  ((((h.setCell (p := ⟨N, 0, none⟩) hN x).setCell (p := ⟨N, 1, none⟩) hN y).setCell (p := ⟨N, 2, none⟩) hN z).setCell (p := ⟨N, 3, none⟩) hN t).mono hlo
theorem back_bytes (D : ByteArray) : (⟨D.data.toList.toArray⟩ : ByteArray) = D := by rw [Array.toArray_toList]
theorem cel2 {w1 : World} {N : Nat} {p : Addr} (h : p.block ≠ N) (x y : Value) : ((w1.setCell ⟨N, 0, none⟩ x).setCell ⟨N, 1, none⟩ y).cell? p = w1.cell? p :=
  World.cell?_of_block ((Below.heap_setCell _ ⟨N, 1, none⟩ _ p.block h).trans (Below.heap_setCell _ ⟨N, 0, none⟩ _ p.block h))
theorem fro2 {w1 : World} {N : Nat} {p : Addr} (h : p.block ≠ N) (x y : Value) : ((w1.setCell ⟨N, 0, none⟩ x).setCell ⟨N, 1, none⟩ y).frozen? p = w1.frozen? p :=
  World.frozen?_of_block ((Below.heap_setCell _ ⟨N, 1, none⟩ _ p.block h).trans (Below.heap_setCell _ ⟨N, 0, none⟩ _ p.block h))
theorem grown_at (W : World) (p : Addr) (v : Value) : W.grownBy (W.setCell p v) (some p.block) :=
  ⟨rfl, rfl, rfl, by simp [World.setCell], fun k _ hn => Below.heap_setCell _ _ _ _ (fun e => hn (by rw [e]))⟩
theorem seg_off {W W' : World} {lo N n c : Nat} {a : Option Addr} {xs : List Nat} (h : Own W lo a n c xs) (hb : Below W.heap.size W W') (hN : W.heap.size ≤ N) (x y : Value) : Seg ((W'.setCell ⟨N, 0, none⟩ x).setCell ⟨N, 1, none⟩ y) a n c xs := by
  have ne : (Value.slice a n c).ownBlock = none ∨ (Value.slice a n c).ownBlock ≠ some N := by
    cases hk : (Value.slice a n c).ownBlock with
    | none => exact .inl rfl
    | some k => exact .inr fun e => by have := (h.1.lt k hk).2; cases e; omega
  exact (((h.below hb).kept (grown_at W' ⟨N, 0, none⟩ x) ne).kept (grown_at _ ⟨N, 1, none⟩ y) ne).seg
theorem seg_on {W : World} {lo N n c : Nat} {a : Option Addr} {xs : List Nat} (h : Own W lo a n c xs) (hN : N < lo) (x y : Value) : Seg ((W.setCell ⟨N, 0, none⟩ x).setCell ⟨N, 1, none⟩ y) a n c xs :=
  ((h.setCell (p := ⟨N, 0, none⟩) hN x).setCell (p := ⟨N, 1, none⟩) hN y).seg
theorem prodXY (v1 v2 : Value) (x y : Int) (w : World) (h1 : Is w v1 x) (h2 : Is w v2 y) (l1 : (lms x).length ≤ 500000) (l2 : (lms y).length ≤ 500000) :
    Calls Tryz.prog 43 #[v1, v2] w fun e w' => ∃ v, e = .returned v ∧ New w' w.heap.size v (x * y) ∧ Below w.heap.size w w' := by
  have := prodI v1 v2 (sgn x) (sgn y) x.natAbs y.natAbs w h1 h2 l1 l2
  rw [mk_self, mk_self] at this; exact this

end Go.Proofs.YtbcokpnhhjjedaaGreatDoor
