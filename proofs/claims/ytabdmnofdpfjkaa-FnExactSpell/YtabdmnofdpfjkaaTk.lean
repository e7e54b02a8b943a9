/- What the walks of this seat say of memory: a list of words (a kind, a text, a place each); and the walks of what the law asks of one word. -/
import Derived.Test.YtabdmnofdpfjkaaChecked
import Derived.WalkKit
import Derived.WalkLawsBesides
import Derived.Deep.QuietTactic
import Derived.BigQuiet
import Derived.OwnWalk
import Derived.Laws.OwnMore
import Derived.Maps.AppendAt
import Derived.Lib.QuietBelow
import Derived.Deep.RegionHeld3
namespace Go.Proofs.Ytabdmnofdpfjkaa
open Go.RowKit
set_option linter.unusedVariables false

theorem hide {p : Prop} (h : p) : Hid p := h
theorem ret_int {k : IntKind} {a b : Int} (h : a = b) : Ending.returned (.int k a) = .returned (.int k b) := by rw [h]
theorem ret_bool {a b : Bool} (h : a = b) : Ending.returned (.bool a) = .returned (.bool b) := by rw [h]
theorem bl_alloc {a w : World} (h : Below a.heap.size a w) (o : Obj) : Below a.heap.size a (w.alloc o) := h.alloc h.size o
theorem bl_trans {a b c : World} (h : Below a.heap.size a b) (k : Below b.heap.size b c) : Below a.heap.size a c := h.trans (k.mono h.size)
theorem bl_refl (a : World) : Below a.heap.size a a := Below.refl _ _
/-- a word: its kind, its text, its place -/
def wd (t : Int × ByteArray × Int) : Value := .agg #[.int .i64 t.1, .string t.2.1, .int .i64 t.2.2]
/-- a list of words that is read -/
def TSeg (W : World) (a : Option Addr) (n cap : Nat) (ts : List (Int × ByteArray × Int)) : Prop :=
  ts.length = n ∧ n ≤ cap ∧ cap ≤ 9223372036854775807 ∧ (∀ t ∈ ts, t.2.1.size ≤ 9223372036854775807) ∧ (n = 0 ∨ ∃ g o, a = some ⟨g, o, none⟩ ∧ g < W.heap.size ∧ ∀ j (hj : j < ts.length), W.cell? ⟨g, o + j * 3, none⟩ = some (.int .i64 ts[j].1) ∧ W.cell? ⟨g, o + j * 3 + 1, none⟩ = some (.string ts[j].2.1) ∧ W.cell? ⟨g, o + j * 3 + 2, none⟩ = some (.int .i64 ts[j].2.2))
theorem TSeg.below {W W' : World} {a : Option Addr} {n cap : Nat} {ts : List (Int × ByteArray × Int)} (h : TSeg W a n cap ts) (hb : Below W.heap.size W W') : TSeg W' a n cap ts := by
  obtain ⟨h1, h2, h3, h4, h5⟩ := h
  refine ⟨h1, h2, h3, h4, ?_⟩
  rcases h5 with h5 | ⟨g, o, ha, hg, hc⟩
  · exact .inl h5
  · exact .inr ⟨g, o, ha, Nat.lt_of_lt_of_le hg hb.size, fun j hj => ⟨(hb.cell (p := ⟨g, o + j * 3, none⟩) hg).trans (hc j hj).1, (hb.cell (p := ⟨g, o + j * 3 + 1, none⟩) hg).trans (hc j hj).2.1, (hb.cell (p := ⟨g, o + j * 3 + 2, none⟩) hg).trans (hc j hj).2.2⟩⟩

theorem szT (k p : Int) (s : ByteArray) (left : Int) (w : World) (hs : s.size ≤ 9223372036854775807) (h0 : 0 ≤ left) (h1 : left ≤ 1048576) :
    Calls Try.prog 9 #[.agg #[.int .i64 k, .string s, .int .i64 p], .int .i64 left] w fun e w' => e = .returned (.int .i64 (if left < s.size then -1 else left - s.size)) ∧ Below w.heap.size w w' := by
  by_cases h : left < s.size
  · rw [if_pos h]
    have h' : left - (s.size : Int) < 0 := by omega
    go_enter Try.func9, Try.ntmps9
    go_wp2
    go_ret
    exact ⟨rfl, bl_alloc (bl_refl w) _⟩
  · rw [if_neg h]
    have h' : ¬ left - (s.size : Int) < 0 := by omega
    go_enter Try.func9, Try.ntmps9
    go_wp2
    go_ret
    exact ⟨rfl, bl_alloc (bl_refl w) _⟩

theorem toT (k p : Int) (s : ByteArray) (w : World) :
    Calls Try.prog 10 #[.agg #[.int .i64 k, .string s, .int .i64 p]] w fun e w' => e = .returned (.agg #[.int .i64 k, .string s, .int .i64 p]) ∧ Below w.heap.size w w' := by
  go_enter Try.func10, Try.ntmps10
  go_wp2
  refine bodyPost_ret (v := .agg #[.int .i64 k, .string s, .int .i64 p]) (by simp [results, Try.results10, go_sem]) rfl ?_
  refine ⟨rfl, ?_⟩
  exact bl_alloc (bl_alloc (bl_alloc (bl_refl w) _) _) _

theorem eqT (k p : Int) (s : ByteArray) (w : World) :
    Calls Try.prog 13 #[.agg #[.int .i64 k, .string s, .int .i64 p], .agg #[.int .i64 k, .string s, .int .i64 p]] w fun e w' => e = .returned (.bool true) ∧ Below w.heap.size w w' := by
  go_enter Try.func13, Try.ntmps13
  go_wp2
  go_ret
  exact ⟨rfl, bl_alloc (bl_alloc (bl_refl w) _) _⟩
end Go.Proofs.Ytabdmnofdpfjkaa
