/- My texts VRight, VPlOf, VPwOf, VOkS, in this order. -/
import Derived.Test.YtnjaejaibbgkpaaGreatPk05
import Derived.Laws.IdiomCopy
/- The walks of right, placesOf, powersOf and both VecOk. -/
namespace Go.Proofs.YtnjaejaibbgkpaaGreat.V
open Go.RowKit
set_option linter.unusedVariables false
set_option maxRecDepth 20000

/-- the powers of eight places by a number are right -/
def rgtB (f : Nat → Int) (d : Int) : Bool := decide (1 ≤ d ∧ d ≤ 720) && winB 100000 f && (gsh d f 8 == 1)

set_option maxHeartbeats 400000 in
theorem right8 (n d : Int) (f : Nat → Int) (w : World) :
    Calls Tryz.prog 104 #[Value.agg #[Value.int .i64 n, Value.int .i64 (f 0), Value.int .i64 (f 1), Value.int .i64 (f 2), Value.int .i64 (f 3), Value.int .i64 (f 4), Value.int .i64 (f 5), Value.int .i64 (f 6), Value.int .i64 (f 7), Value.int .i64 d]] w fun e w' => e = .returned (.bool (rgtB f d)) ∧ Below w.heap.size w w' := by
  have HB := hide (bl_alloc (bl_refl w) (Obj.cells #[Value.int .i64 n, Value.int .i64 (f 0), Value.int .i64 (f 1), Value.int .i64 (f 2), Value.int .i64 (f 3), Value.int .i64 (f 4), Value.int .i64 (f 5), Value.int .i64 (f 6), Value.int .i64 (f 7), Value.int .i64 d] 129))
  by_cases h1 : d < 1
  · have HR : Hid (rgtB f d = false) := hide (by unfold rgtB; rw [decide_eq_false (by omega)]; rfl)
    have h1' : ¬ 1 ≤ d := by omega
    go_enter Tryz.func104, Tryz.ntmps104
    go_wp2
    go_ret
    exact ⟨ret_bool HR.out.symm, HB.out⟩
  by_cases h2 : 720 < d
  · have HR : Hid (rgtB f d = false) := hide (by unfold rgtB; rw [decide_eq_false (by omega)]; rfl)
    have h1' : 1 ≤ d := by omega
    have h2' : decide (d ≤ 720) = false := by simp; omega
    go_enter Tryz.func104, Tryz.ntmps104
    go_wp2
    go_ret
    exact ⟨ret_bool HR.out.symm, HB.out⟩
  have h1' : 1 ≤ d := by omega
  have h2' : d ≤ 720 := by omega
  have h2'' : decide (d ≤ 720) = true := by simp; omega
  clear h1 h2
  cases hw : winB 100000 f with
  | false =>
    have HR : Hid (rgtB f d = false) := hide (by unfold rgtB; rw [hw]; simp)
    have HW := hide hw
    clear hw
    go_enter Tryz.func104, Tryz.ntmps104
    go_wp2_with fail
    refine (within8 n 100000 f _ (by omega) (by omega)).mono ?_
    rw [HW.out]
    rintro e w1 ⟨rfl, hb⟩
    have HB1 := hide (bl_trans HB.out hb)
    clear hb
    go_wp2
    go_ret
    exact ⟨ret_bool HR.out.symm, HB1.out⟩
  | true =>
    have HR : Hid (rgtB f d = (gsh d f 8 == 1)) := hide (by unfold rgtB; rw [hw, decide_eq_true ⟨h1', h2'⟩]; simp)
    have hf : ∀ j, j < 8 → -1000000000000000 ≤ f j ∧ f j ≤ 1000000000000000 := fun j hj => by have := (winB_iff 100000 f).1 hw j hj; omega
    have HF := hide hf
    have HW := hide hw
    clear hw hf
    have q0 : ∀ W1 : World, Below (w.alloc (Obj.cells #[Value.int .i64 n, Value.int .i64 (f 0), Value.int .i64 (f 1), Value.int .i64 (f 2), Value.int .i64 (f 3), Value.int .i64 (f 4), Value.int .i64 (f 5), Value.int .i64 (f 6), Value.int .i64 (f 7), Value.int .i64 d] 129)).heap.size (w.alloc (Obj.cells #[Value.int .i64 n, Value.int .i64 (f 0), Value.int .i64 (f 1), Value.int .i64 (f 2), Value.int .i64 (f 3), Value.int .i64 (f 4), Value.int .i64 (f 5), Value.int .i64 (f 6), Value.int .i64 (f 7), Value.int .i64 d] 129)) W1 → (W1.cell? ⟨w.heap.size, 0, none⟩ = some (Value.int .i64 n) ∧ W1.cell? ⟨w.heap.size, 1, none⟩ = some (Value.int .i64 (f 0)) ∧ W1.cell? ⟨w.heap.size, 2, none⟩ = some (Value.int .i64 (f 1)) ∧ W1.cell? ⟨w.heap.size, 3, none⟩ = some (Value.int .i64 (f 2)) ∧ W1.cell? ⟨w.heap.size, 4, none⟩ = some (Value.int .i64 (f 3)) ∧ W1.cell? ⟨w.heap.size, 5, none⟩ = some (Value.int .i64 (f 4)) ∧ W1.cell? ⟨w.heap.size, 6, none⟩ = some (Value.int .i64 (f 5)) ∧ W1.cell? ⟨w.heap.size, 7, none⟩ = some (Value.int .i64 (f 6)) ∧ W1.cell? ⟨w.heap.size, 8, none⟩ = some (Value.int .i64 (f 7)) ∧ W1.cell? ⟨w.heap.size, 9, none⟩ = some (Value.int .i64 d)) := fun W1 hb => ⟨(hb.cell (p := ⟨w.heap.size, 0, none⟩) (by simp only [World.size_alloc]; omega)).trans (by go_simp), (hb.cell (p := ⟨w.heap.size, 1, none⟩) (by simp only [World.size_alloc]; omega)).trans (by go_simp), (hb.cell (p := ⟨w.heap.size, 2, none⟩) (by simp only [World.size_alloc]; omega)).trans (by go_simp), (hb.cell (p := ⟨w.heap.size, 3, none⟩) (by simp only [World.size_alloc]; omega)).trans (by go_simp), (hb.cell (p := ⟨w.heap.size, 4, none⟩) (by simp only [World.size_alloc]; omega)).trans (by go_simp), (hb.cell (p := ⟨w.heap.size, 5, none⟩) (by simp only [World.size_alloc]; omega)).trans (by go_simp), (hb.cell (p := ⟨w.heap.size, 6, none⟩) (by simp only [World.size_alloc]; omega)).trans (by go_simp), (hb.cell (p := ⟨w.heap.size, 7, none⟩) (by simp only [World.size_alloc]; omega)).trans (by go_simp), (hb.cell (p := ⟨w.heap.size, 8, none⟩) (by simp only [World.size_alloc]; omega)).trans (by go_simp), (hb.cell (p := ⟨w.heap.size, 9, none⟩) (by simp only [World.size_alloc]; omega)).trans (by go_simp)⟩
    have Q0 := hide q0
    clear q0
    go_enter Tryz.func104, Tryz.ntmps104
    go_wp2_with fail
    refine (within8 n 100000 f _ (by omega) (by omega)).mono ?_
    rw [HW.out]
    rintro e w1 ⟨rfl, hb⟩
    obtain ⟨c0, c1, c2, c3, c4, c5, c6, c7, c8, c9⟩ := Q0.out w1 hb
    have HB1 := hide (bl_trans HB.out hb)
    clear hb
    go_wp2_with fail
    refine (shared8 n d f _ (by omega) HF.out).mono ?_
    rintro e w2 ⟨rfl, hb⟩
    have HB2 := hide (bl_trans HB1.out hb)
    clear hb
    generalize gsh d f 8 = g at *
    go_wp2
    go_ret
    exact ⟨ret_bool HR.out.symm, HB2.out⟩
end Go.Proofs.YtnjaejaibbgkpaaGreat.V

/- The walk of placesOf. -/
namespace Go.Proofs.YtnjaejaibbgkpaaGreat.V
open Go.RowKit
set_option linter.unusedVariables false
set_option maxRecDepth 20000

/-- a list as eight places, noughts behind it -/
def at8 (xs : List Int) (j : Nat) : Int := xs.getD j 0
theorem at8_lt {xs : List Int} {j : Nat} (h : j < xs.length) : at8 xs j = xs[j] := by unfold at8; simp [h]
theorem at8_ge {xs : List Int} {j : Nat} (h : xs.length ≤ j) : at8 xs j = 0 := by unfold at8; simp [h]

theorem below_setCells (B b : Nat) (h : B ≤ b) : ∀ (vs : List Value) (o : Nat) (w0 w : World), Below B w0 w → Below B w0 (w.setCells b o vs)
  | [], _, _, _, hb => hb
  | v :: r, o, w0, w, hb => below_setCells B b h r (o + 1) w0 (w.setCell ⟨b, o, none⟩ v) (hb.setCell (p := ⟨b, o, none⟩) h v)
/-- a list of at most eight copied into an array of eight noughts -/
theorem copy8 (W : World) (N : Nat) (a : Option Addr) (cap : Nat) (xs : List Int) (h8 : xs.length ≤ 8) (hs : Seg W a xs.length cap xs) (hc : ∀ j, j < 8 → W.cell? ⟨N, 1 + j, none⟩ = some (.int .i64 0)) (hf : ∀ j, j < 8 → W.frozen? ⟨N, 1 + j, none⟩ = false) :
    ∃ W', Sem.run Tryz.prog (Builtin.copy_ #[41, 41] 3 #[Value.slice (some ⟨N, 1, none⟩) 8 8, Value.slice a xs.length cap]) W = .ok (.int .i64 (xs.length : Int)) W' ∧ (∀ j, j < 8 → W'.cell? ⟨N, 1 + j, none⟩ = some (.int .i64 (at8 xs j))) ∧ (∀ b o, (b ≠ N ∨ o = 0) → W'.cell? ⟨b, o, none⟩ = W.cell? ⟨b, o, none⟩) ∧ (∀ x, W'.frozen? x = W.frozen? x) ∧ (∀ B w0, B ≤ N → Below B w0 W → Below B w0 W') := by
  have hsz : (Tryz.prog.info? 3).map (·.size) = some 1 := by
    obtain ⟨i0, hi, hz0, hz1, hz2⟩ := info_parts Tryz.info3
    rw [hi]; simp [hz1]
  rcases hs.2.2.2 with h0 | ⟨g, o, rfl, hg, hcell⟩
  · have hnil : xs = [] := List.eq_nil_of_length_eq_zero h0
    subst hnil
    refine ⟨W, run_copy_none W 41 41 3 3 _ _ _ _ _ _ Tryz.underlying41 hsz rfl, fun j hj => ?_, fun _ _ _ => rfl, fun _ => rfl, fun _ _ _ h => h⟩
    rw [hc j hj]; rfl
  · have hn : (xs.map lim).length = Nat.min xs.length 8 := by simp [Nat.min_def]; omega
    have hrun := run_copy_cells (P := Tryz.prog) W 41 41 3 3 N 1 8 8 ⟨g, o, none⟩ xs.length cap (xs.map lim) Tryz.underlying41 hsz hn (fun j v hv => by
        obtain ⟨hj, rfl⟩ := List.getElem?_eq_some_iff.1 hv
        have hj' : j < xs.length := by simpa using hj
        have := hcell j hj'
        by_cases hj0 : j = 0
        · subst hj0; simpa [Addr.add, lim] using this
        · simpa [Addr.add, hj0, lim] using this)
      (fun j hj => by rw [hc j (by simp at hj; omega)]; rfl) (fun j hj => hf j (by simp at hj; omega)) (one_lims xs)
    have hlen : (xs.map lim).length = xs.length := by simp
    refine ⟨W.setCells N 1 (xs.map lim), ?_, fun j hj => ?_, fun b o hbo => ?_, fun x => World.frozen?_setCells N _ _ _ x, fun B w0 hB hb => below_setCells B N hB _ _ _ _ hb⟩
    · rw [hrun, hlen]; rfl
    · by_cases hjl : j < xs.length
      · rw [World.cell?_setCells_in N (xs.map lim) 1 W (fun j hj => by rw [hc j (by simp at hj; omega)]; rfl) j (by simpa using hjl), at8_lt hjl]
        simp [lim]
      · rw [World.cell?_setCells_out N (xs.map lim) 1 W ⟨N, 1 + j, none⟩ (fun _ _ => .inr (by simp; omega)), hc j hj, at8_ge (by omega)]
    · refine World.cell?_setCells_out N (xs.map lim) 1 W ⟨b, o, none⟩ (fun hb _ => .inl ?_)
      rcases hbo with h | h
      · exact absurd hb h
      · dsimp only; omega

set_option maxHeartbeats 400000 in
theorem placesOf_no (a : Option Addr) (n cap : Nat) (w : World) (h : 8 < n) (hn : n ≤ 9223372036854775807) :
    Calls Tryz.prog 103 #[.slice a n cap] w fun e w' => e = .returned (.tuple #[Value.agg #[Value.int .i64 0, Value.int .i64 0, Value.int .i64 0, Value.int .i64 0, Value.int .i64 0, Value.int .i64 0, Value.int .i64 0, Value.int .i64 0, Value.int .i64 0], .bool false]) ∧ Below w.heap.size w w' := by
  have h' : (8 : Int) < (n : Int) := by omega
  go_enter Tryz.func103, Tryz.ntmps103
  go_wp2
  exact bodyPost_ret (v := .tuple #[Value.agg #[Value.int .i64 0, Value.int .i64 0, Value.int .i64 0, Value.int .i64 0, Value.int .i64 0, Value.int .i64 0, Value.int .i64 0, Value.int .i64 0, Value.int .i64 0], .bool false]) (by simp [results, Tryz.results103, go_sem]) rfl ⟨rfl, bl_alloc (bl_refl w) _⟩

set_option maxHeartbeats 400000 in
theorem placesOf_yes (a : Option Addr) (cap : Nat) (xs : List Int) (w : World) (h : xs.length ≤ 8) (hs : Seg w a xs.length cap xs) :
    Calls Tryz.prog 103 #[.slice a xs.length cap] w fun e w' => e = .returned (.tuple #[Value.agg #[Value.int .i64 (xs.length : Int), Value.int .i64 (at8 xs 0), Value.int .i64 (at8 xs 1), Value.int .i64 (at8 xs 2), Value.int .i64 (at8 xs 3), Value.int .i64 (at8 xs 4), Value.int .i64 (at8 xs 5), Value.int .i64 (at8 xs 6), Value.int .i64 (at8 xs 7)], .bool true]) ∧ Below w.heap.size w w' := by
  have h' : ¬ (8 : Int) < (xs.length : Int) := by omega
  have hb0 := bl_alloc (bl_alloc (bl_refl w) (Obj.cells #[Value.int .i64 0, Value.int .i64 0, Value.int .i64 0, Value.int .i64 0, Value.int .i64 0, Value.int .i64 0, Value.int .i64 0, Value.int .i64 0, Value.int .i64 0] 127)) (Obj.cells #[Value.int .i64 (xs.length : Int), Value.int .i64 0, Value.int .i64 0, Value.int .i64 0, Value.int .i64 0, Value.int .i64 0, Value.int .i64 0, Value.int .i64 0, Value.int .i64 0] 127)
  obtain ⟨W', hrun, hin, hout, hfr, hbel⟩ := copy8 ((w.alloc (Obj.cells #[Value.int .i64 0, Value.int .i64 0, Value.int .i64 0, Value.int .i64 0, Value.int .i64 0, Value.int .i64 0, Value.int .i64 0, Value.int .i64 0, Value.int .i64 0] 127)).alloc (Obj.cells #[Value.int .i64 (xs.length : Int), Value.int .i64 0, Value.int .i64 0, Value.int .i64 0, Value.int .i64 0, Value.int .i64 0, Value.int .i64 0, Value.int .i64 0, Value.int .i64 0] 127)) (w.heap.size + 1) a cap xs h (hs.below hb0)
    (fun j hj => by
      have : j = 0 ∨ j = 1 ∨ j = 2 ∨ j = 3 ∨ j = 4 ∨ j = 5 ∨ j = 6 ∨ j = 7 := by omega
      rcases this with rfl | rfl | rfl | rfl | rfl | rfl | rfl | rfl <;> go_simp)
    (fun j hj => by
      have : j = 0 ∨ j = 1 ∨ j = 2 ∨ j = 3 ∨ j = 4 ∨ j = 5 ∨ j = 6 ∨ j = 7 := by omega
      rcases this with rfl | rfl | rfl | rfl | rfl | rfl | rfl | rfl <;> go_simp)
  have b0 : W'.cell? ⟨w.heap.size + 1, 0, none⟩ = some (.int .i64 (xs.length : Int)) := (hout _ 0 (.inr rfl)).trans (by go_simp)
  have b1 : W'.cell? ⟨w.heap.size + 1, 1, none⟩ = some (.int .i64 (at8 xs 0)) := hin 0 (by omega)
  have b2 : W'.cell? ⟨w.heap.size + 1, 2, none⟩ = some (.int .i64 (at8 xs 1)) := hin 1 (by omega)
  have b3 : W'.cell? ⟨w.heap.size + 1, 3, none⟩ = some (.int .i64 (at8 xs 2)) := hin 2 (by omega)
  have b4 : W'.cell? ⟨w.heap.size + 1, 4, none⟩ = some (.int .i64 (at8 xs 3)) := hin 3 (by omega)
  have b5 : W'.cell? ⟨w.heap.size + 1, 5, none⟩ = some (.int .i64 (at8 xs 4)) := hin 4 (by omega)
  have b6 : W'.cell? ⟨w.heap.size + 1, 6, none⟩ = some (.int .i64 (at8 xs 5)) := hin 5 (by omega)
  have b7 : W'.cell? ⟨w.heap.size + 1, 7, none⟩ = some (.int .i64 (at8 xs 6)) := hin 6 (by omega)
  have b8 : W'.cell? ⟨w.heap.size + 1, 8, none⟩ = some (.int .i64 (at8 xs 7)) := hin 7 (by omega)
  have r0 : W'.cell? ⟨w.heap.size, 0, none⟩ = some (.int .i64 0) := (hout _ _ (.inl (by omega))).trans (by go_simp)
  have f0 : W'.frozen? ⟨w.heap.size, 0, none⟩ = false := (hfr _).trans (by go_simp)
  have r1 : W'.cell? ⟨w.heap.size, 1, none⟩ = some (.int .i64 0) := (hout _ _ (.inl (by omega))).trans (by go_simp)
  have f1 : W'.frozen? ⟨w.heap.size, 1, none⟩ = false := (hfr _).trans (by go_simp)
  have r2 : W'.cell? ⟨w.heap.size, 2, none⟩ = some (.int .i64 0) := (hout _ _ (.inl (by omega))).trans (by go_simp)
  have f2 : W'.frozen? ⟨w.heap.size, 2, none⟩ = false := (hfr _).trans (by go_simp)
  have r3 : W'.cell? ⟨w.heap.size, 3, none⟩ = some (.int .i64 0) := (hout _ _ (.inl (by omega))).trans (by go_simp)
  have f3 : W'.frozen? ⟨w.heap.size, 3, none⟩ = false := (hfr _).trans (by go_simp)
  have r4 : W'.cell? ⟨w.heap.size, 4, none⟩ = some (.int .i64 0) := (hout _ _ (.inl (by omega))).trans (by go_simp)
  have f4 : W'.frozen? ⟨w.heap.size, 4, none⟩ = false := (hfr _).trans (by go_simp)
  have r5 : W'.cell? ⟨w.heap.size, 5, none⟩ = some (.int .i64 0) := (hout _ _ (.inl (by omega))).trans (by go_simp)
  have f5 : W'.frozen? ⟨w.heap.size, 5, none⟩ = false := (hfr _).trans (by go_simp)
  have r6 : W'.cell? ⟨w.heap.size, 6, none⟩ = some (.int .i64 0) := (hout _ _ (.inl (by omega))).trans (by go_simp)
  have f6 : W'.frozen? ⟨w.heap.size, 6, none⟩ = false := (hfr _).trans (by go_simp)
  have r7 : W'.cell? ⟨w.heap.size, 7, none⟩ = some (.int .i64 0) := (hout _ _ (.inl (by omega))).trans (by go_simp)
  have f7 : W'.frozen? ⟨w.heap.size, 7, none⟩ = false := (hfr _).trans (by go_simp)
  have r8 : W'.cell? ⟨w.heap.size, 8, none⟩ = some (.int .i64 0) := (hout _ _ (.inl (by omega))).trans (by go_simp)
  have f8 : W'.frozen? ⟨w.heap.size, 8, none⟩ = false := (hfr _).trans (by go_simp)
  have HB := hide (hbel w.heap.size w (by omega) hb0)
  clear hin hout hfr hbel hb0 hs
  go_enter Tryz.func103, Tryz.ntmps103
  go_wp2
  refine bodyPost_ret (v := .tuple #[Value.agg #[Value.int .i64 (xs.length : Int), Value.int .i64 (at8 xs 0), Value.int .i64 (at8 xs 1), Value.int .i64 (at8 xs 2), Value.int .i64 (at8 xs 3), Value.int .i64 (at8 xs 4), Value.int .i64 (at8 xs 5), Value.int .i64 (at8 xs 6), Value.int .i64 (at8 xs 7)], .bool true]) (by simp [results, Tryz.results103, go_sem, *]) rfl ⟨rfl, ?_⟩
  exact (((((((((HB.out.setCell (p := ⟨w.heap.size, 0, none⟩) (Nat.le_refl _) _).setCell (p := ⟨w.heap.size, 1, none⟩) (Nat.le_refl _) _).setCell (p := ⟨w.heap.size, 2, none⟩) (Nat.le_refl _) _).setCell (p := ⟨w.heap.size, 3, none⟩) (Nat.le_refl _) _).setCell (p := ⟨w.heap.size, 4, none⟩) (Nat.le_refl _) _).setCell (p := ⟨w.heap.size, 5, none⟩) (Nat.le_refl _) _).setCell (p := ⟨w.heap.size, 6, none⟩) (Nat.le_refl _) _).setCell (p := ⟨w.heap.size, 7, none⟩) (Nat.le_refl _) _).setCell (p := ⟨w.heap.size, 8, none⟩) (Nat.le_refl _) _)
end Go.Proofs.YtnjaejaibbgkpaaGreat.V

/- The walk of powersOf. -/
namespace Go.Proofs.YtnjaejaibbgkpaaGreat.V
open Go.RowKit
set_option linter.unusedVariables false
set_option maxRecDepth 20000

set_option maxHeartbeats 400000 in
theorem powersOf_no (den : Int) (a : Option Addr) (n cap : Nat) (w : World) (h : 8 < n) (hn : n ≤ 9223372036854775807) :
    Calls Tryz.prog 82 #[.agg #[.int .i64 den, .slice a n cap]] w fun e w' => e = .returned (.tuple #[Value.agg #[Value.int .i64 0, Value.int .i64 0, Value.int .i64 0, Value.int .i64 0, Value.int .i64 0, Value.int .i64 0, Value.int .i64 0, Value.int .i64 0, Value.int .i64 0, Value.int .i64 den], .bool false]) ∧ Below w.heap.size w w' := by
  have kv0 : ((w.alloc (Obj.cells #[Value.int .i64 den, Value.slice a n cap] 43)).alloc (Obj.cells #[Value.int .i64 0, Value.int .i64 0, Value.int .i64 0, Value.int .i64 0, Value.int .i64 0, Value.int .i64 0, Value.int .i64 0, Value.int .i64 0, Value.int .i64 0, Value.int .i64 0] 129)).cell? ⟨w.heap.size, 0, none⟩ = some (Value.int .i64 den) := by go_simp
  have kv1 : ((w.alloc (Obj.cells #[Value.int .i64 den, Value.slice a n cap] 43)).alloc (Obj.cells #[Value.int .i64 0, Value.int .i64 0, Value.int .i64 0, Value.int .i64 0, Value.int .i64 0, Value.int .i64 0, Value.int .i64 0, Value.int .i64 0, Value.int .i64 0, Value.int .i64 0] 129)).cell? ⟨w.heap.size, 1, none⟩ = some (Value.slice a n cap) := by go_simp
  have zv : w.heap.size < ((w.alloc (Obj.cells #[Value.int .i64 den, Value.slice a n cap] 43)).alloc (Obj.cells #[Value.int .i64 0, Value.int .i64 0, Value.int .i64 0, Value.int .i64 0, Value.int .i64 0, Value.int .i64 0, Value.int .i64 0, Value.int .i64 0, Value.int .i64 0, Value.int .i64 0] 129)).heap.size := by simp only [World.size_alloc]; omega
  have kr0 : ((w.alloc (Obj.cells #[Value.int .i64 den, Value.slice a n cap] 43)).alloc (Obj.cells #[Value.int .i64 0, Value.int .i64 0, Value.int .i64 0, Value.int .i64 0, Value.int .i64 0, Value.int .i64 0, Value.int .i64 0, Value.int .i64 0, Value.int .i64 0, Value.int .i64 0] 129)).cell? ⟨w.heap.size + 1, 0, none⟩ = some (Value.int .i64 0) := by go_simp
  have fr0 : ((w.alloc (Obj.cells #[Value.int .i64 den, Value.slice a n cap] 43)).alloc (Obj.cells #[Value.int .i64 0, Value.int .i64 0, Value.int .i64 0, Value.int .i64 0, Value.int .i64 0, Value.int .i64 0, Value.int .i64 0, Value.int .i64 0, Value.int .i64 0, Value.int .i64 0] 129)).frozen? ⟨w.heap.size + 1, 0, none⟩ = false := by go_simp
  have kr1 : ((w.alloc (Obj.cells #[Value.int .i64 den, Value.slice a n cap] 43)).alloc (Obj.cells #[Value.int .i64 0, Value.int .i64 0, Value.int .i64 0, Value.int .i64 0, Value.int .i64 0, Value.int .i64 0, Value.int .i64 0, Value.int .i64 0, Value.int .i64 0, Value.int .i64 0] 129)).cell? ⟨w.heap.size + 1, 1, none⟩ = some (Value.int .i64 0) := by go_simp
  have fr1 : ((w.alloc (Obj.cells #[Value.int .i64 den, Value.slice a n cap] 43)).alloc (Obj.cells #[Value.int .i64 0, Value.int .i64 0, Value.int .i64 0, Value.int .i64 0, Value.int .i64 0, Value.int .i64 0, Value.int .i64 0, Value.int .i64 0, Value.int .i64 0, Value.int .i64 0] 129)).frozen? ⟨w.heap.size + 1, 1, none⟩ = false := by go_simp
  have kr2 : ((w.alloc (Obj.cells #[Value.int .i64 den, Value.slice a n cap] 43)).alloc (Obj.cells #[Value.int .i64 0, Value.int .i64 0, Value.int .i64 0, Value.int .i64 0, Value.int .i64 0, Value.int .i64 0, Value.int .i64 0, Value.int .i64 0, Value.int .i64 0, Value.int .i64 0] 129)).cell? ⟨w.heap.size + 1, 2, none⟩ = some (Value.int .i64 0) := by go_simp
  have fr2 : ((w.alloc (Obj.cells #[Value.int .i64 den, Value.slice a n cap] 43)).alloc (Obj.cells #[Value.int .i64 0, Value.int .i64 0, Value.int .i64 0, Value.int .i64 0, Value.int .i64 0, Value.int .i64 0, Value.int .i64 0, Value.int .i64 0, Value.int .i64 0, Value.int .i64 0] 129)).frozen? ⟨w.heap.size + 1, 2, none⟩ = false := by go_simp
  have kr3 : ((w.alloc (Obj.cells #[Value.int .i64 den, Value.slice a n cap] 43)).alloc (Obj.cells #[Value.int .i64 0, Value.int .i64 0, Value.int .i64 0, Value.int .i64 0, Value.int .i64 0, Value.int .i64 0, Value.int .i64 0, Value.int .i64 0, Value.int .i64 0, Value.int .i64 0] 129)).cell? ⟨w.heap.size + 1, 3, none⟩ = some (Value.int .i64 0) := by go_simp
  have fr3 : ((w.alloc (Obj.cells #[Value.int .i64 den, Value.slice a n cap] 43)).alloc (Obj.cells #[Value.int .i64 0, Value.int .i64 0, Value.int .i64 0, Value.int .i64 0, Value.int .i64 0, Value.int .i64 0, Value.int .i64 0, Value.int .i64 0, Value.int .i64 0, Value.int .i64 0] 129)).frozen? ⟨w.heap.size + 1, 3, none⟩ = false := by go_simp
  have kr4 : ((w.alloc (Obj.cells #[Value.int .i64 den, Value.slice a n cap] 43)).alloc (Obj.cells #[Value.int .i64 0, Value.int .i64 0, Value.int .i64 0, Value.int .i64 0, Value.int .i64 0, Value.int .i64 0, Value.int .i64 0, Value.int .i64 0, Value.int .i64 0, Value.int .i64 0] 129)).cell? ⟨w.heap.size + 1, 4, none⟩ = some (Value.int .i64 0) := by go_simp
  have fr4 : ((w.alloc (Obj.cells #[Value.int .i64 den, Value.slice a n cap] 43)).alloc (Obj.cells #[Value.int .i64 0, Value.int .i64 0, Value.int .i64 0, Value.int .i64 0, Value.int .i64 0, Value.int .i64 0, Value.int .i64 0, Value.int .i64 0, Value.int .i64 0, Value.int .i64 0] 129)).frozen? ⟨w.heap.size + 1, 4, none⟩ = false := by go_simp
  have kr5 : ((w.alloc (Obj.cells #[Value.int .i64 den, Value.slice a n cap] 43)).alloc (Obj.cells #[Value.int .i64 0, Value.int .i64 0, Value.int .i64 0, Value.int .i64 0, Value.int .i64 0, Value.int .i64 0, Value.int .i64 0, Value.int .i64 0, Value.int .i64 0, Value.int .i64 0] 129)).cell? ⟨w.heap.size + 1, 5, none⟩ = some (Value.int .i64 0) := by go_simp
  have fr5 : ((w.alloc (Obj.cells #[Value.int .i64 den, Value.slice a n cap] 43)).alloc (Obj.cells #[Value.int .i64 0, Value.int .i64 0, Value.int .i64 0, Value.int .i64 0, Value.int .i64 0, Value.int .i64 0, Value.int .i64 0, Value.int .i64 0, Value.int .i64 0, Value.int .i64 0] 129)).frozen? ⟨w.heap.size + 1, 5, none⟩ = false := by go_simp
  have kr6 : ((w.alloc (Obj.cells #[Value.int .i64 den, Value.slice a n cap] 43)).alloc (Obj.cells #[Value.int .i64 0, Value.int .i64 0, Value.int .i64 0, Value.int .i64 0, Value.int .i64 0, Value.int .i64 0, Value.int .i64 0, Value.int .i64 0, Value.int .i64 0, Value.int .i64 0] 129)).cell? ⟨w.heap.size + 1, 6, none⟩ = some (Value.int .i64 0) := by go_simp
  have fr6 : ((w.alloc (Obj.cells #[Value.int .i64 den, Value.slice a n cap] 43)).alloc (Obj.cells #[Value.int .i64 0, Value.int .i64 0, Value.int .i64 0, Value.int .i64 0, Value.int .i64 0, Value.int .i64 0, Value.int .i64 0, Value.int .i64 0, Value.int .i64 0, Value.int .i64 0] 129)).frozen? ⟨w.heap.size + 1, 6, none⟩ = false := by go_simp
  have kr7 : ((w.alloc (Obj.cells #[Value.int .i64 den, Value.slice a n cap] 43)).alloc (Obj.cells #[Value.int .i64 0, Value.int .i64 0, Value.int .i64 0, Value.int .i64 0, Value.int .i64 0, Value.int .i64 0, Value.int .i64 0, Value.int .i64 0, Value.int .i64 0, Value.int .i64 0] 129)).cell? ⟨w.heap.size + 1, 7, none⟩ = some (Value.int .i64 0) := by go_simp
  have fr7 : ((w.alloc (Obj.cells #[Value.int .i64 den, Value.slice a n cap] 43)).alloc (Obj.cells #[Value.int .i64 0, Value.int .i64 0, Value.int .i64 0, Value.int .i64 0, Value.int .i64 0, Value.int .i64 0, Value.int .i64 0, Value.int .i64 0, Value.int .i64 0, Value.int .i64 0] 129)).frozen? ⟨w.heap.size + 1, 7, none⟩ = false := by go_simp
  have kr8 : ((w.alloc (Obj.cells #[Value.int .i64 den, Value.slice a n cap] 43)).alloc (Obj.cells #[Value.int .i64 0, Value.int .i64 0, Value.int .i64 0, Value.int .i64 0, Value.int .i64 0, Value.int .i64 0, Value.int .i64 0, Value.int .i64 0, Value.int .i64 0, Value.int .i64 0] 129)).cell? ⟨w.heap.size + 1, 8, none⟩ = some (Value.int .i64 0) := by go_simp
  have fr8 : ((w.alloc (Obj.cells #[Value.int .i64 den, Value.slice a n cap] 43)).alloc (Obj.cells #[Value.int .i64 0, Value.int .i64 0, Value.int .i64 0, Value.int .i64 0, Value.int .i64 0, Value.int .i64 0, Value.int .i64 0, Value.int .i64 0, Value.int .i64 0, Value.int .i64 0] 129)).frozen? ⟨w.heap.size + 1, 8, none⟩ = false := by go_simp
  have kr9 : ((w.alloc (Obj.cells #[Value.int .i64 den, Value.slice a n cap] 43)).alloc (Obj.cells #[Value.int .i64 0, Value.int .i64 0, Value.int .i64 0, Value.int .i64 0, Value.int .i64 0, Value.int .i64 0, Value.int .i64 0, Value.int .i64 0, Value.int .i64 0, Value.int .i64 0] 129)).cell? ⟨w.heap.size + 1, 9, none⟩ = some (Value.int .i64 0) := by go_simp
  have fr9 : ((w.alloc (Obj.cells #[Value.int .i64 den, Value.slice a n cap] 43)).alloc (Obj.cells #[Value.int .i64 0, Value.int .i64 0, Value.int .i64 0, Value.int .i64 0, Value.int .i64 0, Value.int .i64 0, Value.int .i64 0, Value.int .i64 0, Value.int .i64 0, Value.int .i64 0] 129)).frozen? ⟨w.heap.size + 1, 9, none⟩ = false := by go_simp
  have zr : w.heap.size + 1 < ((w.alloc (Obj.cells #[Value.int .i64 den, Value.slice a n cap] 43)).alloc (Obj.cells #[Value.int .i64 0, Value.int .i64 0, Value.int .i64 0, Value.int .i64 0, Value.int .i64 0, Value.int .i64 0, Value.int .i64 0, Value.int .i64 0, Value.int .i64 0, Value.int .i64 0] 129)).heap.size := by simp only [World.size_alloc]; omega
  have HB := hide (bl_alloc (bl_alloc (bl_refl w) (Obj.cells #[Value.int .i64 den, Value.slice a n cap] 43)) (Obj.cells #[Value.int .i64 0, Value.int .i64 0, Value.int .i64 0, Value.int .i64 0, Value.int .i64 0, Value.int .i64 0, Value.int .i64 0, Value.int .i64 0, Value.int .i64 0, Value.int .i64 0] 129))
  go_enter Tryz.func82, Tryz.ntmps82
  go_wp2_with fail
  generalize ((w.alloc (Obj.cells #[Value.int .i64 den, Value.slice a n cap] 43)).alloc (Obj.cells #[Value.int .i64 0, Value.int .i64 0, Value.int .i64 0, Value.int .i64 0, Value.int .i64 0, Value.int .i64 0, Value.int .i64 0, Value.int .i64 0, Value.int .i64 0, Value.int .i64 0] 129)) = w1 at *
  refine (placesOf_no a n cap _ h hn).mono ?_
  rintro e w2 ⟨rfl, hb⟩
  replace kv0 := (hb.cell (p := ⟨w.heap.size, 0, none⟩) zv).trans kv0
  replace kv1 := (hb.cell (p := ⟨w.heap.size, 1, none⟩) zv).trans kv1
  replace zv := Nat.lt_of_lt_of_le zv hb.size
  replace kr0 := (hb.cell (p := ⟨w.heap.size + 1, 0, none⟩) zr).trans kr0
  replace fr0 := (hb.frozen (p := ⟨w.heap.size + 1, 0, none⟩) zr).trans fr0
  replace kr1 := (hb.cell (p := ⟨w.heap.size + 1, 1, none⟩) zr).trans kr1
  replace fr1 := (hb.frozen (p := ⟨w.heap.size + 1, 1, none⟩) zr).trans fr1
  replace kr2 := (hb.cell (p := ⟨w.heap.size + 1, 2, none⟩) zr).trans kr2
  replace fr2 := (hb.frozen (p := ⟨w.heap.size + 1, 2, none⟩) zr).trans fr2
  replace kr3 := (hb.cell (p := ⟨w.heap.size + 1, 3, none⟩) zr).trans kr3
  replace fr3 := (hb.frozen (p := ⟨w.heap.size + 1, 3, none⟩) zr).trans fr3
  replace kr4 := (hb.cell (p := ⟨w.heap.size + 1, 4, none⟩) zr).trans kr4
  replace fr4 := (hb.frozen (p := ⟨w.heap.size + 1, 4, none⟩) zr).trans fr4
  replace kr5 := (hb.cell (p := ⟨w.heap.size + 1, 5, none⟩) zr).trans kr5
  replace fr5 := (hb.frozen (p := ⟨w.heap.size + 1, 5, none⟩) zr).trans fr5
  replace kr6 := (hb.cell (p := ⟨w.heap.size + 1, 6, none⟩) zr).trans kr6
  replace fr6 := (hb.frozen (p := ⟨w.heap.size + 1, 6, none⟩) zr).trans fr6
  replace kr7 := (hb.cell (p := ⟨w.heap.size + 1, 7, none⟩) zr).trans kr7
  replace fr7 := (hb.frozen (p := ⟨w.heap.size + 1, 7, none⟩) zr).trans fr7
  replace kr8 := (hb.cell (p := ⟨w.heap.size + 1, 8, none⟩) zr).trans kr8
  replace fr8 := (hb.frozen (p := ⟨w.heap.size + 1, 8, none⟩) zr).trans fr8
  replace kr9 := (hb.cell (p := ⟨w.heap.size + 1, 9, none⟩) zr).trans kr9
  replace fr9 := (hb.frozen (p := ⟨w.heap.size + 1, 9, none⟩) zr).trans fr9
  replace zr := Nat.lt_of_lt_of_le zr hb.size
  replace HB := hide (bl_trans HB.out hb)
  clear hb
  go_wp2_with fail
  have hb := bl_alloc (bl_alloc (bl_refl w2) (Obj.cells #[Value.int .i64 0, Value.int .i64 0, Value.int .i64 0, Value.int .i64 0, Value.int .i64 0, Value.int .i64 0, Value.int .i64 0, Value.int .i64 0, Value.int .i64 0] 127)) (Obj.cells #[Value.int .i64 0, Value.int .i64 0, Value.int .i64 0, Value.int .i64 0, Value.int .i64 0, Value.int .i64 0, Value.int .i64 0, Value.int .i64 0, Value.int .i64 0, Value.int .i64 den] 129)
  replace kv0 := (hb.cell (p := ⟨w.heap.size, 0, none⟩) zv).trans kv0
  replace kv1 := (hb.cell (p := ⟨w.heap.size, 1, none⟩) zv).trans kv1
  replace zv := Nat.lt_of_lt_of_le zv hb.size
  replace kr0 := (hb.cell (p := ⟨w.heap.size + 1, 0, none⟩) zr).trans kr0
  replace fr0 := (hb.frozen (p := ⟨w.heap.size + 1, 0, none⟩) zr).trans fr0
  replace kr1 := (hb.cell (p := ⟨w.heap.size + 1, 1, none⟩) zr).trans kr1
  replace fr1 := (hb.frozen (p := ⟨w.heap.size + 1, 1, none⟩) zr).trans fr1
  replace kr2 := (hb.cell (p := ⟨w.heap.size + 1, 2, none⟩) zr).trans kr2
  replace fr2 := (hb.frozen (p := ⟨w.heap.size + 1, 2, none⟩) zr).trans fr2
  replace kr3 := (hb.cell (p := ⟨w.heap.size + 1, 3, none⟩) zr).trans kr3
  replace fr3 := (hb.frozen (p := ⟨w.heap.size + 1, 3, none⟩) zr).trans fr3
  replace kr4 := (hb.cell (p := ⟨w.heap.size + 1, 4, none⟩) zr).trans kr4
  replace fr4 := (hb.frozen (p := ⟨w.heap.size + 1, 4, none⟩) zr).trans fr4
  replace kr5 := (hb.cell (p := ⟨w.heap.size + 1, 5, none⟩) zr).trans kr5
  replace fr5 := (hb.frozen (p := ⟨w.heap.size + 1, 5, none⟩) zr).trans fr5
  replace kr6 := (hb.cell (p := ⟨w.heap.size + 1, 6, none⟩) zr).trans kr6
  replace fr6 := (hb.frozen (p := ⟨w.heap.size + 1, 6, none⟩) zr).trans fr6
  replace kr7 := (hb.cell (p := ⟨w.heap.size + 1, 7, none⟩) zr).trans kr7
  replace fr7 := (hb.frozen (p := ⟨w.heap.size + 1, 7, none⟩) zr).trans fr7
  replace kr8 := (hb.cell (p := ⟨w.heap.size + 1, 8, none⟩) zr).trans kr8
  replace fr8 := (hb.frozen (p := ⟨w.heap.size + 1, 8, none⟩) zr).trans fr8
  replace kr9 := (hb.cell (p := ⟨w.heap.size + 1, 9, none⟩) zr).trans kr9
  replace fr9 := (hb.frozen (p := ⟨w.heap.size + 1, 9, none⟩) zr).trans fr9
  replace zr := Nat.lt_of_lt_of_le zr hb.size
  replace HB := hide (bl_trans HB.out hb)
  have kx0 : ((w2.alloc (Obj.cells #[Value.int .i64 0, Value.int .i64 0, Value.int .i64 0, Value.int .i64 0, Value.int .i64 0, Value.int .i64 0, Value.int .i64 0, Value.int .i64 0, Value.int .i64 0] 127)).alloc (Obj.cells #[Value.int .i64 0, Value.int .i64 0, Value.int .i64 0, Value.int .i64 0, Value.int .i64 0, Value.int .i64 0, Value.int .i64 0, Value.int .i64 0, Value.int .i64 0, Value.int .i64 den] 129)).cell? ⟨w2.heap.size + 1, 0, none⟩ = some (Value.int .i64 0) := by go_simp
  have kx1 : ((w2.alloc (Obj.cells #[Value.int .i64 0, Value.int .i64 0, Value.int .i64 0, Value.int .i64 0, Value.int .i64 0, Value.int .i64 0, Value.int .i64 0, Value.int .i64 0, Value.int .i64 0] 127)).alloc (Obj.cells #[Value.int .i64 0, Value.int .i64 0, Value.int .i64 0, Value.int .i64 0, Value.int .i64 0, Value.int .i64 0, Value.int .i64 0, Value.int .i64 0, Value.int .i64 0, Value.int .i64 den] 129)).cell? ⟨w2.heap.size + 1, 1, none⟩ = some (Value.int .i64 0) := by go_simp
  have kx2 : ((w2.alloc (Obj.cells #[Value.int .i64 0, Value.int .i64 0, Value.int .i64 0, Value.int .i64 0, Value.int .i64 0, Value.int .i64 0, Value.int .i64 0, Value.int .i64 0, Value.int .i64 0] 127)).alloc (Obj.cells #[Value.int .i64 0, Value.int .i64 0, Value.int .i64 0, Value.int .i64 0, Value.int .i64 0, Value.int .i64 0, Value.int .i64 0, Value.int .i64 0, Value.int .i64 0, Value.int .i64 den] 129)).cell? ⟨w2.heap.size + 1, 2, none⟩ = some (Value.int .i64 0) := by go_simp
  have kx3 : ((w2.alloc (Obj.cells #[Value.int .i64 0, Value.int .i64 0, Value.int .i64 0, Value.int .i64 0, Value.int .i64 0, Value.int .i64 0, Value.int .i64 0, Value.int .i64 0, Value.int .i64 0] 127)).alloc (Obj.cells #[Value.int .i64 0, Value.int .i64 0, Value.int .i64 0, Value.int .i64 0, Value.int .i64 0, Value.int .i64 0, Value.int .i64 0, Value.int .i64 0, Value.int .i64 0, Value.int .i64 den] 129)).cell? ⟨w2.heap.size + 1, 3, none⟩ = some (Value.int .i64 0) := by go_simp
  have kx4 : ((w2.alloc (Obj.cells #[Value.int .i64 0, Value.int .i64 0, Value.int .i64 0, Value.int .i64 0, Value.int .i64 0, Value.int .i64 0, Value.int .i64 0, Value.int .i64 0, Value.int .i64 0] 127)).alloc (Obj.cells #[Value.int .i64 0, Value.int .i64 0, Value.int .i64 0, Value.int .i64 0, Value.int .i64 0, Value.int .i64 0, Value.int .i64 0, Value.int .i64 0, Value.int .i64 0, Value.int .i64 den] 129)).cell? ⟨w2.heap.size + 1, 4, none⟩ = some (Value.int .i64 0) := by go_simp
  have kx5 : ((w2.alloc (Obj.cells #[Value.int .i64 0, Value.int .i64 0, Value.int .i64 0, Value.int .i64 0, Value.int .i64 0, Value.int .i64 0, Value.int .i64 0, Value.int .i64 0, Value.int .i64 0] 127)).alloc (Obj.cells #[Value.int .i64 0, Value.int .i64 0, Value.int .i64 0, Value.int .i64 0, Value.int .i64 0, Value.int .i64 0, Value.int .i64 0, Value.int .i64 0, Value.int .i64 0, Value.int .i64 den] 129)).cell? ⟨w2.heap.size + 1, 5, none⟩ = some (Value.int .i64 0) := by go_simp
  have kx6 : ((w2.alloc (Obj.cells #[Value.int .i64 0, Value.int .i64 0, Value.int .i64 0, Value.int .i64 0, Value.int .i64 0, Value.int .i64 0, Value.int .i64 0, Value.int .i64 0, Value.int .i64 0] 127)).alloc (Obj.cells #[Value.int .i64 0, Value.int .i64 0, Value.int .i64 0, Value.int .i64 0, Value.int .i64 0, Value.int .i64 0, Value.int .i64 0, Value.int .i64 0, Value.int .i64 0, Value.int .i64 den] 129)).cell? ⟨w2.heap.size + 1, 6, none⟩ = some (Value.int .i64 0) := by go_simp
  have kx7 : ((w2.alloc (Obj.cells #[Value.int .i64 0, Value.int .i64 0, Value.int .i64 0, Value.int .i64 0, Value.int .i64 0, Value.int .i64 0, Value.int .i64 0, Value.int .i64 0, Value.int .i64 0] 127)).alloc (Obj.cells #[Value.int .i64 0, Value.int .i64 0, Value.int .i64 0, Value.int .i64 0, Value.int .i64 0, Value.int .i64 0, Value.int .i64 0, Value.int .i64 0, Value.int .i64 0, Value.int .i64 den] 129)).cell? ⟨w2.heap.size + 1, 7, none⟩ = some (Value.int .i64 0) := by go_simp
  have kx8 : ((w2.alloc (Obj.cells #[Value.int .i64 0, Value.int .i64 0, Value.int .i64 0, Value.int .i64 0, Value.int .i64 0, Value.int .i64 0, Value.int .i64 0, Value.int .i64 0, Value.int .i64 0] 127)).alloc (Obj.cells #[Value.int .i64 0, Value.int .i64 0, Value.int .i64 0, Value.int .i64 0, Value.int .i64 0, Value.int .i64 0, Value.int .i64 0, Value.int .i64 0, Value.int .i64 0, Value.int .i64 den] 129)).cell? ⟨w2.heap.size + 1, 8, none⟩ = some (Value.int .i64 0) := by go_simp
  have kx9 : ((w2.alloc (Obj.cells #[Value.int .i64 0, Value.int .i64 0, Value.int .i64 0, Value.int .i64 0, Value.int .i64 0, Value.int .i64 0, Value.int .i64 0, Value.int .i64 0, Value.int .i64 0] 127)).alloc (Obj.cells #[Value.int .i64 0, Value.int .i64 0, Value.int .i64 0, Value.int .i64 0, Value.int .i64 0, Value.int .i64 0, Value.int .i64 0, Value.int .i64 0, Value.int .i64 0, Value.int .i64 den] 129)).cell? ⟨w2.heap.size + 1, 9, none⟩ = some (Value.int .i64 den) := by go_simp
  have zx : w2.heap.size + 1 < ((w2.alloc (Obj.cells #[Value.int .i64 0, Value.int .i64 0, Value.int .i64 0, Value.int .i64 0, Value.int .i64 0, Value.int .i64 0, Value.int .i64 0, Value.int .i64 0, Value.int .i64 0] 127)).alloc (Obj.cells #[Value.int .i64 0, Value.int .i64 0, Value.int .i64 0, Value.int .i64 0, Value.int .i64 0, Value.int .i64 0, Value.int .i64 0, Value.int .i64 0, Value.int .i64 0, Value.int .i64 den] 129)).heap.size := by simp only [World.size_alloc]; omega
  generalize ((w2.alloc (Obj.cells #[Value.int .i64 0, Value.int .i64 0, Value.int .i64 0, Value.int .i64 0, Value.int .i64 0, Value.int .i64 0, Value.int .i64 0, Value.int .i64 0, Value.int .i64 0] 127)).alloc (Obj.cells #[Value.int .i64 0, Value.int .i64 0, Value.int .i64 0, Value.int .i64 0, Value.int .i64 0, Value.int .i64 0, Value.int .i64 0, Value.int .i64 0, Value.int .i64 0, Value.int .i64 den] 129)) = w3 at *
  clear hb
  go_region
  go_wp2
  refine bodyPost_ret (v := .tuple #[Value.agg #[Value.int .i64 0, Value.int .i64 0, Value.int .i64 0, Value.int .i64 0, Value.int .i64 0, Value.int .i64 0, Value.int .i64 0, Value.int .i64 0, Value.int .i64 0, Value.int .i64 den], .bool false]) (by simp [results, Tryz.results82, go_sem, *]) rfl ⟨rfl, ?_⟩
  exact (((((((((((HB.out.setCell (p := ⟨w.heap.size + 1, 0, none⟩) (Nat.le_succ _) _).setCell (p := ⟨w.heap.size + 1, 1, none⟩) (Nat.le_succ _) _).setCell (p := ⟨w.heap.size + 1, 2, none⟩) (Nat.le_succ _) _).setCell (p := ⟨w.heap.size + 1, 3, none⟩) (Nat.le_succ _) _).setCell (p := ⟨w.heap.size + 1, 4, none⟩) (Nat.le_succ _) _).setCell (p := ⟨w.heap.size + 1, 5, none⟩) (Nat.le_succ _) _).setCell (p := ⟨w.heap.size + 1, 6, none⟩) (Nat.le_succ _) _).setCell (p := ⟨w.heap.size + 1, 7, none⟩) (Nat.le_succ _) _).setCell (p := ⟨w.heap.size + 1, 8, none⟩) (Nat.le_succ _) _).setCell (p := ⟨w.heap.size + 1, 9, none⟩) (Nat.le_succ _) _)).drew

set_option maxHeartbeats 400000 in
theorem powersOf_yes (den : Int) (a : Option Addr) (cap : Nat) (xs : List Int) (w : World) (h : xs.length ≤ 8) (hs : Seg w a xs.length cap xs) :
    Calls Tryz.prog 82 #[.agg #[.int .i64 den, .slice a xs.length cap]] w fun e w' => e = .returned (.tuple #[Value.agg #[Value.int .i64 (xs.length : Int), Value.int .i64 (at8 xs 0), Value.int .i64 (at8 xs 1), Value.int .i64 (at8 xs 2), Value.int .i64 (at8 xs 3), Value.int .i64 (at8 xs 4), Value.int .i64 (at8 xs 5), Value.int .i64 (at8 xs 6), Value.int .i64 (at8 xs 7), Value.int .i64 den], .bool (rgtB (at8 xs) den)]) ∧ Below w.heap.size w w' := by
  have kv0 : ((w.alloc (Obj.cells #[Value.int .i64 den, Value.slice a xs.length cap] 43)).alloc (Obj.cells #[Value.int .i64 0, Value.int .i64 0, Value.int .i64 0, Value.int .i64 0, Value.int .i64 0, Value.int .i64 0, Value.int .i64 0, Value.int .i64 0, Value.int .i64 0, Value.int .i64 0] 129)).cell? ⟨w.heap.size, 0, none⟩ = some (Value.int .i64 den) := by go_simp
  have kv1 : ((w.alloc (Obj.cells #[Value.int .i64 den, Value.slice a xs.length cap] 43)).alloc (Obj.cells #[Value.int .i64 0, Value.int .i64 0, Value.int .i64 0, Value.int .i64 0, Value.int .i64 0, Value.int .i64 0, Value.int .i64 0, Value.int .i64 0, Value.int .i64 0, Value.int .i64 0] 129)).cell? ⟨w.heap.size, 1, none⟩ = some (Value.slice a xs.length cap) := by go_simp
  have zv : w.heap.size < ((w.alloc (Obj.cells #[Value.int .i64 den, Value.slice a xs.length cap] 43)).alloc (Obj.cells #[Value.int .i64 0, Value.int .i64 0, Value.int .i64 0, Value.int .i64 0, Value.int .i64 0, Value.int .i64 0, Value.int .i64 0, Value.int .i64 0, Value.int .i64 0, Value.int .i64 0] 129)).heap.size := by simp only [World.size_alloc]; omega
  have kr0 : ((w.alloc (Obj.cells #[Value.int .i64 den, Value.slice a xs.length cap] 43)).alloc (Obj.cells #[Value.int .i64 0, Value.int .i64 0, Value.int .i64 0, Value.int .i64 0, Value.int .i64 0, Value.int .i64 0, Value.int .i64 0, Value.int .i64 0, Value.int .i64 0, Value.int .i64 0] 129)).cell? ⟨w.heap.size + 1, 0, none⟩ = some (Value.int .i64 0) := by go_simp
  have fr0 : ((w.alloc (Obj.cells #[Value.int .i64 den, Value.slice a xs.length cap] 43)).alloc (Obj.cells #[Value.int .i64 0, Value.int .i64 0, Value.int .i64 0, Value.int .i64 0, Value.int .i64 0, Value.int .i64 0, Value.int .i64 0, Value.int .i64 0, Value.int .i64 0, Value.int .i64 0] 129)).frozen? ⟨w.heap.size + 1, 0, none⟩ = false := by go_simp
  have kr1 : ((w.alloc (Obj.cells #[Value.int .i64 den, Value.slice a xs.length cap] 43)).alloc (Obj.cells #[Value.int .i64 0, Value.int .i64 0, Value.int .i64 0, Value.int .i64 0, Value.int .i64 0, Value.int .i64 0, Value.int .i64 0, Value.int .i64 0, Value.int .i64 0, Value.int .i64 0] 129)).cell? ⟨w.heap.size + 1, 1, none⟩ = some (Value.int .i64 0) := by go_simp
  have fr1 : ((w.alloc (Obj.cells #[Value.int .i64 den, Value.slice a xs.length cap] 43)).alloc (Obj.cells #[Value.int .i64 0, Value.int .i64 0, Value.int .i64 0, Value.int .i64 0, Value.int .i64 0, Value.int .i64 0, Value.int .i64 0, Value.int .i64 0, Value.int .i64 0, Value.int .i64 0] 129)).frozen? ⟨w.heap.size + 1, 1, none⟩ = false := by go_simp
  have kr2 : ((w.alloc (Obj.cells #[Value.int .i64 den, Value.slice a xs.length cap] 43)).alloc (Obj.cells #[Value.int .i64 0, Value.int .i64 0, Value.int .i64 0, Value.int .i64 0, Value.int .i64 0, Value.int .i64 0, Value.int .i64 0, Value.int .i64 0, Value.int .i64 0, Value.int .i64 0] 129)).cell? ⟨w.heap.size + 1, 2, none⟩ = some (Value.int .i64 0) := by go_simp
  have fr2 : ((w.alloc (Obj.cells #[Value.int .i64 den, Value.slice a xs.length cap] 43)).alloc (Obj.cells #[Value.int .i64 0, Value.int .i64 0, Value.int .i64 0, Value.int .i64 0, Value.int .i64 0, Value.int .i64 0, Value.int .i64 0, Value.int .i64 0, Value.int .i64 0, Value.int .i64 0] 129)).frozen? ⟨w.heap.size + 1, 2, none⟩ = false := by go_simp
  have kr3 : ((w.alloc (Obj.cells #[Value.int .i64 den, Value.slice a xs.length cap] 43)).alloc (Obj.cells #[Value.int .i64 0, Value.int .i64 0, Value.int .i64 0, Value.int .i64 0, Value.int .i64 0, Value.int .i64 0, Value.int .i64 0, Value.int .i64 0, Value.int .i64 0, Value.int .i64 0] 129)).cell? ⟨w.heap.size + 1, 3, none⟩ = some (Value.int .i64 0) := by go_simp
  have fr3 : ((w.alloc (Obj.cells #[Value.int .i64 den, Value.slice a xs.length cap] 43)).alloc (Obj.cells #[Value.int .i64 0, Value.int .i64 0, Value.int .i64 0, Value.int .i64 0, Value.int .i64 0, Value.int .i64 0, Value.int .i64 0, Value.int .i64 0, Value.int .i64 0, Value.int .i64 0] 129)).frozen? ⟨w.heap.size + 1, 3, none⟩ = false := by go_simp
  have kr4 : ((w.alloc (Obj.cells #[Value.int .i64 den, Value.slice a xs.length cap] 43)).alloc (Obj.cells #[Value.int .i64 0, Value.int .i64 0, Value.int .i64 0, Value.int .i64 0, Value.int .i64 0, Value.int .i64 0, Value.int .i64 0, Value.int .i64 0, Value.int .i64 0, Value.int .i64 0] 129)).cell? ⟨w.heap.size + 1, 4, none⟩ = some (Value.int .i64 0) := by go_simp
  have fr4 : ((w.alloc (Obj.cells #[Value.int .i64 den, Value.slice a xs.length cap] 43)).alloc (Obj.cells #[Value.int .i64 0, Value.int .i64 0, Value.int .i64 0, Value.int .i64 0, Value.int .i64 0, Value.int .i64 0, Value.int .i64 0, Value.int .i64 0, Value.int .i64 0, Value.int .i64 0] 129)).frozen? ⟨w.heap.size + 1, 4, none⟩ = false := by go_simp
  have kr5 : ((w.alloc (Obj.cells #[Value.int .i64 den, Value.slice a xs.length cap] 43)).alloc (Obj.cells #[Value.int .i64 0, Value.int .i64 0, Value.int .i64 0, Value.int .i64 0, Value.int .i64 0, Value.int .i64 0, Value.int .i64 0, Value.int .i64 0, Value.int .i64 0, Value.int .i64 0] 129)).cell? ⟨w.heap.size + 1, 5, none⟩ = some (Value.int .i64 0) := by go_simp
  have fr5 : ((w.alloc (Obj.cells #[Value.int .i64 den, Value.slice a xs.length cap] 43)).alloc (Obj.cells #[Value.int .i64 0, Value.int .i64 0, Value.int .i64 0, Value.int .i64 0, Value.int .i64 0, Value.int .i64 0, Value.int .i64 0, Value.int .i64 0, Value.int .i64 0, Value.int .i64 0] 129)).frozen? ⟨w.heap.size + 1, 5, none⟩ = false := by go_simp
  have kr6 : ((w.alloc (Obj.cells #[Value.int .i64 den, Value.slice a xs.length cap] 43)).alloc (Obj.cells #[Value.int .i64 0, Value.int .i64 0, Value.int .i64 0, Value.int .i64 0, Value.int .i64 0, Value.int .i64 0, Value.int .i64 0, Value.int .i64 0, Value.int .i64 0, Value.int .i64 0] 129)).cell? ⟨w.heap.size + 1, 6, none⟩ = some (Value.int .i64 0) := by go_simp
  have fr6 : ((w.alloc (Obj.cells #[Value.int .i64 den, Value.slice a xs.length cap] 43)).alloc (Obj.cells #[Value.int .i64 0, Value.int .i64 0, Value.int .i64 0, Value.int .i64 0, Value.int .i64 0, Value.int .i64 0, Value.int .i64 0, Value.int .i64 0, Value.int .i64 0, Value.int .i64 0] 129)).frozen? ⟨w.heap.size + 1, 6, none⟩ = false := by go_simp
  have kr7 : ((w.alloc (Obj.cells #[Value.int .i64 den, Value.slice a xs.length cap] 43)).alloc (Obj.cells #[Value.int .i64 0, Value.int .i64 0, Value.int .i64 0, Value.int .i64 0, Value.int .i64 0, Value.int .i64 0, Value.int .i64 0, Value.int .i64 0, Value.int .i64 0, Value.int .i64 0] 129)).cell? ⟨w.heap.size + 1, 7, none⟩ = some (Value.int .i64 0) := by go_simp
  have fr7 : ((w.alloc (Obj.cells #[Value.int .i64 den, Value.slice a xs.length cap] 43)).alloc (Obj.cells #[Value.int .i64 0, Value.int .i64 0, Value.int .i64 0, Value.int .i64 0, Value.int .i64 0, Value.int .i64 0, Value.int .i64 0, Value.int .i64 0, Value.int .i64 0, Value.int .i64 0] 129)).frozen? ⟨w.heap.size + 1, 7, none⟩ = false := by go_simp
  have kr8 : ((w.alloc (Obj.cells #[Value.int .i64 den, Value.slice a xs.length cap] 43)).alloc (Obj.cells #[Value.int .i64 0, Value.int .i64 0, Value.int .i64 0, Value.int .i64 0, Value.int .i64 0, Value.int .i64 0, Value.int .i64 0, Value.int .i64 0, Value.int .i64 0, Value.int .i64 0] 129)).cell? ⟨w.heap.size + 1, 8, none⟩ = some (Value.int .i64 0) := by go_simp
  have fr8 : ((w.alloc (Obj.cells #[Value.int .i64 den, Value.slice a xs.length cap] 43)).alloc (Obj.cells #[Value.int .i64 0, Value.int .i64 0, Value.int .i64 0, Value.int .i64 0, Value.int .i64 0, Value.int .i64 0, Value.int .i64 0, Value.int .i64 0, Value.int .i64 0, Value.int .i64 0] 129)).frozen? ⟨w.heap.size + 1, 8, none⟩ = false := by go_simp
  have kr9 : ((w.alloc (Obj.cells #[Value.int .i64 den, Value.slice a xs.length cap] 43)).alloc (Obj.cells #[Value.int .i64 0, Value.int .i64 0, Value.int .i64 0, Value.int .i64 0, Value.int .i64 0, Value.int .i64 0, Value.int .i64 0, Value.int .i64 0, Value.int .i64 0, Value.int .i64 0] 129)).cell? ⟨w.heap.size + 1, 9, none⟩ = some (Value.int .i64 0) := by go_simp
  have fr9 : ((w.alloc (Obj.cells #[Value.int .i64 den, Value.slice a xs.length cap] 43)).alloc (Obj.cells #[Value.int .i64 0, Value.int .i64 0, Value.int .i64 0, Value.int .i64 0, Value.int .i64 0, Value.int .i64 0, Value.int .i64 0, Value.int .i64 0, Value.int .i64 0, Value.int .i64 0] 129)).frozen? ⟨w.heap.size + 1, 9, none⟩ = false := by go_simp
  have zr : w.heap.size + 1 < ((w.alloc (Obj.cells #[Value.int .i64 den, Value.slice a xs.length cap] 43)).alloc (Obj.cells #[Value.int .i64 0, Value.int .i64 0, Value.int .i64 0, Value.int .i64 0, Value.int .i64 0, Value.int .i64 0, Value.int .i64 0, Value.int .i64 0, Value.int .i64 0, Value.int .i64 0] 129)).heap.size := by simp only [World.size_alloc]; omega
  have HB := hide (bl_alloc (bl_alloc (bl_refl w) (Obj.cells #[Value.int .i64 den, Value.slice a xs.length cap] 43)) (Obj.cells #[Value.int .i64 0, Value.int .i64 0, Value.int .i64 0, Value.int .i64 0, Value.int .i64 0, Value.int .i64 0, Value.int .i64 0, Value.int .i64 0, Value.int .i64 0, Value.int .i64 0] 129))
  have HS := hide (hs.below HB.out)
  clear hs
  go_enter Tryz.func82, Tryz.ntmps82
  go_wp2_with fail
  generalize ((w.alloc (Obj.cells #[Value.int .i64 den, Value.slice a xs.length cap] 43)).alloc (Obj.cells #[Value.int .i64 0, Value.int .i64 0, Value.int .i64 0, Value.int .i64 0, Value.int .i64 0, Value.int .i64 0, Value.int .i64 0, Value.int .i64 0, Value.int .i64 0, Value.int .i64 0] 129)) = w1 at *
  refine (placesOf_yes a cap xs _ h HS.out).mono ?_
  rintro e w2 ⟨rfl, hb⟩
  replace kv0 := (hb.cell (p := ⟨w.heap.size, 0, none⟩) zv).trans kv0
  replace kv1 := (hb.cell (p := ⟨w.heap.size, 1, none⟩) zv).trans kv1
  replace zv := Nat.lt_of_lt_of_le zv hb.size
  replace kr0 := (hb.cell (p := ⟨w.heap.size + 1, 0, none⟩) zr).trans kr0
  replace fr0 := (hb.frozen (p := ⟨w.heap.size + 1, 0, none⟩) zr).trans fr0
  replace kr1 := (hb.cell (p := ⟨w.heap.size + 1, 1, none⟩) zr).trans kr1
  replace fr1 := (hb.frozen (p := ⟨w.heap.size + 1, 1, none⟩) zr).trans fr1
  replace kr2 := (hb.cell (p := ⟨w.heap.size + 1, 2, none⟩) zr).trans kr2
  replace fr2 := (hb.frozen (p := ⟨w.heap.size + 1, 2, none⟩) zr).trans fr2
  replace kr3 := (hb.cell (p := ⟨w.heap.size + 1, 3, none⟩) zr).trans kr3
  replace fr3 := (hb.frozen (p := ⟨w.heap.size + 1, 3, none⟩) zr).trans fr3
  replace kr4 := (hb.cell (p := ⟨w.heap.size + 1, 4, none⟩) zr).trans kr4
  replace fr4 := (hb.frozen (p := ⟨w.heap.size + 1, 4, none⟩) zr).trans fr4
  replace kr5 := (hb.cell (p := ⟨w.heap.size + 1, 5, none⟩) zr).trans kr5
  replace fr5 := (hb.frozen (p := ⟨w.heap.size + 1, 5, none⟩) zr).trans fr5
  replace kr6 := (hb.cell (p := ⟨w.heap.size + 1, 6, none⟩) zr).trans kr6
  replace fr6 := (hb.frozen (p := ⟨w.heap.size + 1, 6, none⟩) zr).trans fr6
  replace kr7 := (hb.cell (p := ⟨w.heap.size + 1, 7, none⟩) zr).trans kr7
  replace fr7 := (hb.frozen (p := ⟨w.heap.size + 1, 7, none⟩) zr).trans fr7
  replace kr8 := (hb.cell (p := ⟨w.heap.size + 1, 8, none⟩) zr).trans kr8
  replace fr8 := (hb.frozen (p := ⟨w.heap.size + 1, 8, none⟩) zr).trans fr8
  replace kr9 := (hb.cell (p := ⟨w.heap.size + 1, 9, none⟩) zr).trans kr9
  replace fr9 := (hb.frozen (p := ⟨w.heap.size + 1, 9, none⟩) zr).trans fr9
  replace zr := Nat.lt_of_lt_of_le zr hb.size
  replace HB := hide (bl_trans HB.out hb)
  clear hb
  clear HS
  go_wp2_with fail
  have hb := bl_alloc (bl_alloc (bl_refl w2) (Obj.cells #[Value.int .i64 (xs.length : Int), Value.int .i64 (at8 xs 0), Value.int .i64 (at8 xs 1), Value.int .i64 (at8 xs 2), Value.int .i64 (at8 xs 3), Value.int .i64 (at8 xs 4), Value.int .i64 (at8 xs 5), Value.int .i64 (at8 xs 6), Value.int .i64 (at8 xs 7)] 127)) (Obj.cells #[Value.int .i64 (xs.length : Int), Value.int .i64 (at8 xs 0), Value.int .i64 (at8 xs 1), Value.int .i64 (at8 xs 2), Value.int .i64 (at8 xs 3), Value.int .i64 (at8 xs 4), Value.int .i64 (at8 xs 5), Value.int .i64 (at8 xs 6), Value.int .i64 (at8 xs 7), Value.int .i64 den] 129)
  replace kv0 := (hb.cell (p := ⟨w.heap.size, 0, none⟩) zv).trans kv0
  replace kv1 := (hb.cell (p := ⟨w.heap.size, 1, none⟩) zv).trans kv1
  replace zv := Nat.lt_of_lt_of_le zv hb.size
  replace kr0 := (hb.cell (p := ⟨w.heap.size + 1, 0, none⟩) zr).trans kr0
  replace fr0 := (hb.frozen (p := ⟨w.heap.size + 1, 0, none⟩) zr).trans fr0
  replace kr1 := (hb.cell (p := ⟨w.heap.size + 1, 1, none⟩) zr).trans kr1
  replace fr1 := (hb.frozen (p := ⟨w.heap.size + 1, 1, none⟩) zr).trans fr1
  replace kr2 := (hb.cell (p := ⟨w.heap.size + 1, 2, none⟩) zr).trans kr2
  replace fr2 := (hb.frozen (p := ⟨w.heap.size + 1, 2, none⟩) zr).trans fr2
  replace kr3 := (hb.cell (p := ⟨w.heap.size + 1, 3, none⟩) zr).trans kr3
  replace fr3 := (hb.frozen (p := ⟨w.heap.size + 1, 3, none⟩) zr).trans fr3
  replace kr4 := (hb.cell (p := ⟨w.heap.size + 1, 4, none⟩) zr).trans kr4
  replace fr4 := (hb.frozen (p := ⟨w.heap.size + 1, 4, none⟩) zr).trans fr4
  replace kr5 := (hb.cell (p := ⟨w.heap.size + 1, 5, none⟩) zr).trans kr5
  replace fr5 := (hb.frozen (p := ⟨w.heap.size + 1, 5, none⟩) zr).trans fr5
  replace kr6 := (hb.cell (p := ⟨w.heap.size + 1, 6, none⟩) zr).trans kr6
  replace fr6 := (hb.frozen (p := ⟨w.heap.size + 1, 6, none⟩) zr).trans fr6
  replace kr7 := (hb.cell (p := ⟨w.heap.size + 1, 7, none⟩) zr).trans kr7
  replace fr7 := (hb.frozen (p := ⟨w.heap.size + 1, 7, none⟩) zr).trans fr7
  replace kr8 := (hb.cell (p := ⟨w.heap.size + 1, 8, none⟩) zr).trans kr8
  replace fr8 := (hb.frozen (p := ⟨w.heap.size + 1, 8, none⟩) zr).trans fr8
  replace kr9 := (hb.cell (p := ⟨w.heap.size + 1, 9, none⟩) zr).trans kr9
  replace fr9 := (hb.frozen (p := ⟨w.heap.size + 1, 9, none⟩) zr).trans fr9
  replace zr := Nat.lt_of_lt_of_le zr hb.size
  replace HB := hide (bl_trans HB.out hb)
  have kx0 : ((w2.alloc (Obj.cells #[Value.int .i64 (xs.length : Int), Value.int .i64 (at8 xs 0), Value.int .i64 (at8 xs 1), Value.int .i64 (at8 xs 2), Value.int .i64 (at8 xs 3), Value.int .i64 (at8 xs 4), Value.int .i64 (at8 xs 5), Value.int .i64 (at8 xs 6), Value.int .i64 (at8 xs 7)] 127)).alloc (Obj.cells #[Value.int .i64 (xs.length : Int), Value.int .i64 (at8 xs 0), Value.int .i64 (at8 xs 1), Value.int .i64 (at8 xs 2), Value.int .i64 (at8 xs 3), Value.int .i64 (at8 xs 4), Value.int .i64 (at8 xs 5), Value.int .i64 (at8 xs 6), Value.int .i64 (at8 xs 7), Value.int .i64 den] 129)).cell? ⟨w2.heap.size + 1, 0, none⟩ = some (Value.int .i64 (xs.length : Int)) := by go_simp
  have kx1 : ((w2.alloc (Obj.cells #[Value.int .i64 (xs.length : Int), Value.int .i64 (at8 xs 0), Value.int .i64 (at8 xs 1), Value.int .i64 (at8 xs 2), Value.int .i64 (at8 xs 3), Value.int .i64 (at8 xs 4), Value.int .i64 (at8 xs 5), Value.int .i64 (at8 xs 6), Value.int .i64 (at8 xs 7)] 127)).alloc (Obj.cells #[Value.int .i64 (xs.length : Int), Value.int .i64 (at8 xs 0), Value.int .i64 (at8 xs 1), Value.int .i64 (at8 xs 2), Value.int .i64 (at8 xs 3), Value.int .i64 (at8 xs 4), Value.int .i64 (at8 xs 5), Value.int .i64 (at8 xs 6), Value.int .i64 (at8 xs 7), Value.int .i64 den] 129)).cell? ⟨w2.heap.size + 1, 1, none⟩ = some (Value.int .i64 (at8 xs 0)) := by go_simp
  have kx2 : ((w2.alloc (Obj.cells #[Value.int .i64 (xs.length : Int), Value.int .i64 (at8 xs 0), Value.int .i64 (at8 xs 1), Value.int .i64 (at8 xs 2), Value.int .i64 (at8 xs 3), Value.int .i64 (at8 xs 4), Value.int .i64 (at8 xs 5), Value.int .i64 (at8 xs 6), Value.int .i64 (at8 xs 7)] 127)).alloc (Obj.cells #[Value.int .i64 (xs.length : Int), Value.int .i64 (at8 xs 0), Value.int .i64 (at8 xs 1), Value.int .i64 (at8 xs 2), Value.int .i64 (at8 xs 3), Value.int .i64 (at8 xs 4), Value.int .i64 (at8 xs 5), Value.int .i64 (at8 xs 6), Value.int .i64 (at8 xs 7), Value.int .i64 den] 129)).cell? ⟨w2.heap.size + 1, 2, none⟩ = some (Value.int .i64 (at8 xs 1)) := by go_simp
  have kx3 : ((w2.alloc (Obj.cells #[Value.int .i64 (xs.length : Int), Value.int .i64 (at8 xs 0), Value.int .i64 (at8 xs 1), Value.int .i64 (at8 xs 2), Value.int .i64 (at8 xs 3), Value.int .i64 (at8 xs 4), Value.int .i64 (at8 xs 5), Value.int .i64 (at8 xs 6), Value.int .i64 (at8 xs 7)] 127)).alloc (Obj.cells #[Value.int .i64 (xs.length : Int), Value.int .i64 (at8 xs 0), Value.int .i64 (at8 xs 1), Value.int .i64 (at8 xs 2), Value.int .i64 (at8 xs 3), Value.int .i64 (at8 xs 4), Value.int .i64 (at8 xs 5), Value.int .i64 (at8 xs 6), Value.int .i64 (at8 xs 7), Value.int .i64 den] 129)).cell? ⟨w2.heap.size + 1, 3, none⟩ = some (Value.int .i64 (at8 xs 2)) := by go_simp
  have kx4 : ((w2.alloc (Obj.cells #[Value.int .i64 (xs.length : Int), Value.int .i64 (at8 xs 0), Value.int .i64 (at8 xs 1), Value.int .i64 (at8 xs 2), Value.int .i64 (at8 xs 3), Value.int .i64 (at8 xs 4), Value.int .i64 (at8 xs 5), Value.int .i64 (at8 xs 6), Value.int .i64 (at8 xs 7)] 127)).alloc (Obj.cells #[Value.int .i64 (xs.length : Int), Value.int .i64 (at8 xs 0), Value.int .i64 (at8 xs 1), Value.int .i64 (at8 xs 2), Value.int .i64 (at8 xs 3), Value.int .i64 (at8 xs 4), Value.int .i64 (at8 xs 5), Value.int .i64 (at8 xs 6), Value.int .i64 (at8 xs 7), Value.int .i64 den] 129)).cell? ⟨w2.heap.size + 1, 4, none⟩ = some (Value.int .i64 (at8 xs 3)) := by go_simp
  have kx5 : ((w2.alloc (Obj.cells #[Value.int .i64 (xs.length : Int), Value.int .i64 (at8 xs 0), Value.int .i64 (at8 xs 1), Value.int .i64 (at8 xs 2), Value.int .i64 (at8 xs 3), Value.int .i64 (at8 xs 4), Value.int .i64 (at8 xs 5), Value.int .i64 (at8 xs 6), Value.int .i64 (at8 xs 7)] 127)).alloc (Obj.cells #[Value.int .i64 (xs.length : Int), Value.int .i64 (at8 xs 0), Value.int .i64 (at8 xs 1), Value.int .i64 (at8 xs 2), Value.int .i64 (at8 xs 3), Value.int .i64 (at8 xs 4), Value.int .i64 (at8 xs 5), Value.int .i64 (at8 xs 6), Value.int .i64 (at8 xs 7), Value.int .i64 den] 129)).cell? ⟨w2.heap.size + 1, 5, none⟩ = some (Value.int .i64 (at8 xs 4)) := by go_simp
  have kx6 : ((w2.alloc (Obj.cells #[Value.int .i64 (xs.length : Int), Value.int .i64 (at8 xs 0), Value.int .i64 (at8 xs 1), Value.int .i64 (at8 xs 2), Value.int .i64 (at8 xs 3), Value.int .i64 (at8 xs 4), Value.int .i64 (at8 xs 5), Value.int .i64 (at8 xs 6), Value.int .i64 (at8 xs 7)] 127)).alloc (Obj.cells #[Value.int .i64 (xs.length : Int), Value.int .i64 (at8 xs 0), Value.int .i64 (at8 xs 1), Value.int .i64 (at8 xs 2), Value.int .i64 (at8 xs 3), Value.int .i64 (at8 xs 4), Value.int .i64 (at8 xs 5), Value.int .i64 (at8 xs 6), Value.int .i64 (at8 xs 7), Value.int .i64 den] 129)).cell? ⟨w2.heap.size + 1, 6, none⟩ = some (Value.int .i64 (at8 xs 5)) := by go_simp
  have kx7 : ((w2.alloc (Obj.cells #[Value.int .i64 (xs.length : Int), Value.int .i64 (at8 xs 0), Value.int .i64 (at8 xs 1), Value.int .i64 (at8 xs 2), Value.int .i64 (at8 xs 3), Value.int .i64 (at8 xs 4), Value.int .i64 (at8 xs 5), Value.int .i64 (at8 xs 6), Value.int .i64 (at8 xs 7)] 127)).alloc (Obj.cells #[Value.int .i64 (xs.length : Int), Value.int .i64 (at8 xs 0), Value.int .i64 (at8 xs 1), Value.int .i64 (at8 xs 2), Value.int .i64 (at8 xs 3), Value.int .i64 (at8 xs 4), Value.int .i64 (at8 xs 5), Value.int .i64 (at8 xs 6), Value.int .i64 (at8 xs 7), Value.int .i64 den] 129)).cell? ⟨w2.heap.size + 1, 7, none⟩ = some (Value.int .i64 (at8 xs 6)) := by go_simp
  have kx8 : ((w2.alloc (Obj.cells #[Value.int .i64 (xs.length : Int), Value.int .i64 (at8 xs 0), Value.int .i64 (at8 xs 1), Value.int .i64 (at8 xs 2), Value.int .i64 (at8 xs 3), Value.int .i64 (at8 xs 4), Value.int .i64 (at8 xs 5), Value.int .i64 (at8 xs 6), Value.int .i64 (at8 xs 7)] 127)).alloc (Obj.cells #[Value.int .i64 (xs.length : Int), Value.int .i64 (at8 xs 0), Value.int .i64 (at8 xs 1), Value.int .i64 (at8 xs 2), Value.int .i64 (at8 xs 3), Value.int .i64 (at8 xs 4), Value.int .i64 (at8 xs 5), Value.int .i64 (at8 xs 6), Value.int .i64 (at8 xs 7), Value.int .i64 den] 129)).cell? ⟨w2.heap.size + 1, 8, none⟩ = some (Value.int .i64 (at8 xs 7)) := by go_simp
  have kx9 : ((w2.alloc (Obj.cells #[Value.int .i64 (xs.length : Int), Value.int .i64 (at8 xs 0), Value.int .i64 (at8 xs 1), Value.int .i64 (at8 xs 2), Value.int .i64 (at8 xs 3), Value.int .i64 (at8 xs 4), Value.int .i64 (at8 xs 5), Value.int .i64 (at8 xs 6), Value.int .i64 (at8 xs 7)] 127)).alloc (Obj.cells #[Value.int .i64 (xs.length : Int), Value.int .i64 (at8 xs 0), Value.int .i64 (at8 xs 1), Value.int .i64 (at8 xs 2), Value.int .i64 (at8 xs 3), Value.int .i64 (at8 xs 4), Value.int .i64 (at8 xs 5), Value.int .i64 (at8 xs 6), Value.int .i64 (at8 xs 7), Value.int .i64 den] 129)).cell? ⟨w2.heap.size + 1, 9, none⟩ = some (Value.int .i64 den) := by go_simp
  have zx : w2.heap.size + 1 < ((w2.alloc (Obj.cells #[Value.int .i64 (xs.length : Int), Value.int .i64 (at8 xs 0), Value.int .i64 (at8 xs 1), Value.int .i64 (at8 xs 2), Value.int .i64 (at8 xs 3), Value.int .i64 (at8 xs 4), Value.int .i64 (at8 xs 5), Value.int .i64 (at8 xs 6), Value.int .i64 (at8 xs 7)] 127)).alloc (Obj.cells #[Value.int .i64 (xs.length : Int), Value.int .i64 (at8 xs 0), Value.int .i64 (at8 xs 1), Value.int .i64 (at8 xs 2), Value.int .i64 (at8 xs 3), Value.int .i64 (at8 xs 4), Value.int .i64 (at8 xs 5), Value.int .i64 (at8 xs 6), Value.int .i64 (at8 xs 7), Value.int .i64 den] 129)).heap.size := by simp only [World.size_alloc]; omega
  generalize ((w2.alloc (Obj.cells #[Value.int .i64 (xs.length : Int), Value.int .i64 (at8 xs 0), Value.int .i64 (at8 xs 1), Value.int .i64 (at8 xs 2), Value.int .i64 (at8 xs 3), Value.int .i64 (at8 xs 4), Value.int .i64 (at8 xs 5), Value.int .i64 (at8 xs 6), Value.int .i64 (at8 xs 7)] 127)).alloc (Obj.cells #[Value.int .i64 (xs.length : Int), Value.int .i64 (at8 xs 0), Value.int .i64 (at8 xs 1), Value.int .i64 (at8 xs 2), Value.int .i64 (at8 xs 3), Value.int .i64 (at8 xs 4), Value.int .i64 (at8 xs 5), Value.int .i64 (at8 xs 6), Value.int .i64 (at8 xs 7), Value.int .i64 den] 129)) = w3 at *
  clear hb
  have KP : Hid (∀ w', Below w3.heap.size w3 w' → (w'.cell? ⟨w.heap.size + 1, 0, none⟩ = some (Value.int .i64 0) ∧ w'.cell? ⟨w.heap.size + 1, 1, none⟩ = some (Value.int .i64 0) ∧ w'.cell? ⟨w.heap.size + 1, 2, none⟩ = some (Value.int .i64 0) ∧ w'.cell? ⟨w.heap.size + 1, 3, none⟩ = some (Value.int .i64 0) ∧ w'.cell? ⟨w.heap.size + 1, 4, none⟩ = some (Value.int .i64 0) ∧ w'.cell? ⟨w.heap.size + 1, 5, none⟩ = some (Value.int .i64 0) ∧ w'.cell? ⟨w.heap.size + 1, 6, none⟩ = some (Value.int .i64 0) ∧ w'.cell? ⟨w.heap.size + 1, 7, none⟩ = some (Value.int .i64 0) ∧ w'.cell? ⟨w.heap.size + 1, 8, none⟩ = some (Value.int .i64 0) ∧ w'.cell? ⟨w.heap.size + 1, 9, none⟩ = some (Value.int .i64 0) ∧ w'.frozen? ⟨w.heap.size + 1, 0, none⟩ = false ∧ w'.frozen? ⟨w.heap.size + 1, 1, none⟩ = false ∧ w'.frozen? ⟨w.heap.size + 1, 2, none⟩ = false ∧ w'.frozen? ⟨w.heap.size + 1, 3, none⟩ = false ∧ w'.frozen? ⟨w.heap.size + 1, 4, none⟩ = false ∧ w'.frozen? ⟨w.heap.size + 1, 5, none⟩ = false ∧ w'.frozen? ⟨w.heap.size + 1, 6, none⟩ = false ∧ w'.frozen? ⟨w.heap.size + 1, 7, none⟩ = false ∧ w'.frozen? ⟨w.heap.size + 1, 8, none⟩ = false ∧ w'.frozen? ⟨w.heap.size + 1, 9, none⟩ = false ∧ w'.cell? ⟨w2.heap.size + 1, 0, none⟩ = some (Value.int .i64 (xs.length : Int)) ∧ w'.cell? ⟨w2.heap.size + 1, 1, none⟩ = some (Value.int .i64 (at8 xs 0)) ∧ w'.cell? ⟨w2.heap.size + 1, 2, none⟩ = some (Value.int .i64 (at8 xs 1)) ∧ w'.cell? ⟨w2.heap.size + 1, 3, none⟩ = some (Value.int .i64 (at8 xs 2)) ∧ w'.cell? ⟨w2.heap.size + 1, 4, none⟩ = some (Value.int .i64 (at8 xs 3)) ∧ w'.cell? ⟨w2.heap.size + 1, 5, none⟩ = some (Value.int .i64 (at8 xs 4)) ∧ w'.cell? ⟨w2.heap.size + 1, 6, none⟩ = some (Value.int .i64 (at8 xs 5)) ∧ w'.cell? ⟨w2.heap.size + 1, 7, none⟩ = some (Value.int .i64 (at8 xs 6)) ∧ w'.cell? ⟨w2.heap.size + 1, 8, none⟩ = some (Value.int .i64 (at8 xs 7)) ∧ w'.cell? ⟨w2.heap.size + 1, 9, none⟩ = some (Value.int .i64 den) ∧ Hid (Below w.heap.size w w'))) := hide (fun w' hb => ⟨(hb.cell (p := ⟨w.heap.size + 1, 0, none⟩) zr).trans kr0, (hb.cell (p := ⟨w.heap.size + 1, 1, none⟩) zr).trans kr1, (hb.cell (p := ⟨w.heap.size + 1, 2, none⟩) zr).trans kr2, (hb.cell (p := ⟨w.heap.size + 1, 3, none⟩) zr).trans kr3, (hb.cell (p := ⟨w.heap.size + 1, 4, none⟩) zr).trans kr4, (hb.cell (p := ⟨w.heap.size + 1, 5, none⟩) zr).trans kr5, (hb.cell (p := ⟨w.heap.size + 1, 6, none⟩) zr).trans kr6, (hb.cell (p := ⟨w.heap.size + 1, 7, none⟩) zr).trans kr7, (hb.cell (p := ⟨w.heap.size + 1, 8, none⟩) zr).trans kr8, (hb.cell (p := ⟨w.heap.size + 1, 9, none⟩) zr).trans kr9, (hb.frozen (p := ⟨w.heap.size + 1, 0, none⟩) zr).trans fr0, (hb.frozen (p := ⟨w.heap.size + 1, 1, none⟩) zr).trans fr1, (hb.frozen (p := ⟨w.heap.size + 1, 2, none⟩) zr).trans fr2, (hb.frozen (p := ⟨w.heap.size + 1, 3, none⟩) zr).trans fr3, (hb.frozen (p := ⟨w.heap.size + 1, 4, none⟩) zr).trans fr4, (hb.frozen (p := ⟨w.heap.size + 1, 5, none⟩) zr).trans fr5, (hb.frozen (p := ⟨w.heap.size + 1, 6, none⟩) zr).trans fr6, (hb.frozen (p := ⟨w.heap.size + 1, 7, none⟩) zr).trans fr7, (hb.frozen (p := ⟨w.heap.size + 1, 8, none⟩) zr).trans fr8, (hb.frozen (p := ⟨w.heap.size + 1, 9, none⟩) zr).trans fr9, (hb.cell (p := ⟨w2.heap.size + 1, 0, none⟩) zx).trans kx0, (hb.cell (p := ⟨w2.heap.size + 1, 1, none⟩) zx).trans kx1, (hb.cell (p := ⟨w2.heap.size + 1, 2, none⟩) zx).trans kx2, (hb.cell (p := ⟨w2.heap.size + 1, 3, none⟩) zx).trans kx3, (hb.cell (p := ⟨w2.heap.size + 1, 4, none⟩) zx).trans kx4, (hb.cell (p := ⟨w2.heap.size + 1, 5, none⟩) zx).trans kx5, (hb.cell (p := ⟨w2.heap.size + 1, 6, none⟩) zx).trans kx6, (hb.cell (p := ⟨w2.heap.size + 1, 7, none⟩) zx).trans kx7, (hb.cell (p := ⟨w2.heap.size + 1, 8, none⟩) zx).trans kx8, (hb.cell (p := ⟨w2.heap.size + 1, 9, none⟩) zx).trans kx9, hide (bl_trans HB.out hb)⟩)
  go_region_with (go_at_call 104; refine (right8 _ _ _ _).mono ?_; rintro e w4 ⟨rfl, hb4⟩; obtain ⟨qr0, qr1, qr2, qr3, qr4, qr5, qr6, qr7, qr8, qr9, qf0, qf1, qf2, qf3, qf4, qf5, qf6, qf7, qf8, qf9, qx0, qx1, qx2, qx3, qx4, qx5, qx6, qx7, qx8, qx9, HQ⟩ := KP.out w4 (bl_trans (bl_refl w3).drew hb4); clear hb4)
  all_goals
    go_wp2
    refine bodyPost_ret (v := .tuple #[Value.agg #[Value.int .i64 (xs.length : Int), Value.int .i64 (at8 xs 0), Value.int .i64 (at8 xs 1), Value.int .i64 (at8 xs 2), Value.int .i64 (at8 xs 3), Value.int .i64 (at8 xs 4), Value.int .i64 (at8 xs 5), Value.int .i64 (at8 xs 6), Value.int .i64 (at8 xs 7), Value.int .i64 den], .bool (rgtB (at8 xs) den)]) (by simp [results, Tryz.results82, go_sem, *]) rfl ⟨rfl, ?_⟩
    exact ((((((((((HQ.out.setCell (p := ⟨w.heap.size + 1, 0, none⟩) (Nat.le_succ _) _).setCell (p := ⟨w.heap.size + 1, 1, none⟩) (Nat.le_succ _) _).setCell (p := ⟨w.heap.size + 1, 2, none⟩) (Nat.le_succ _) _).setCell (p := ⟨w.heap.size + 1, 3, none⟩) (Nat.le_succ _) _).setCell (p := ⟨w.heap.size + 1, 4, none⟩) (Nat.le_succ _) _).setCell (p := ⟨w.heap.size + 1, 5, none⟩) (Nat.le_succ _) _).setCell (p := ⟨w.heap.size + 1, 6, none⟩) (Nat.le_succ _) _).setCell (p := ⟨w.heap.size + 1, 7, none⟩) (Nat.le_succ _) _).setCell (p := ⟨w.heap.size + 1, 8, none⟩) (Nat.le_succ _) _).setCell (p := ⟨w.heap.size + 1, 9, none⟩) (Nat.le_succ _) _)

/-- powers are right -/
def vokB (den : Int) (xs : List Int) : Bool := decide (xs.length ≤ 8) && rgtB (at8 xs) den
/-- the places that powersOf tells -/
def pwN (xs : List Int) : Int := if xs.length ≤ 8 then xs.length else 0
def pwF (xs : List Int) (j : Nat) : Int := if xs.length ≤ 8 then at8 xs j else 0
theorem powersOf (den : Int) (a : Option Addr) (cap : Nat) (xs : List Int) (w : World) (hs : Seg w a xs.length cap xs) :
    Calls Tryz.prog 82 #[.agg #[.int .i64 den, .slice a xs.length cap]] w fun e w' => e = .returned (.tuple #[Value.agg #[Value.int .i64 (pwN xs), Value.int .i64 (pwF xs 0), Value.int .i64 (pwF xs 1), Value.int .i64 (pwF xs 2), Value.int .i64 (pwF xs 3), Value.int .i64 (pwF xs 4), Value.int .i64 (pwF xs 5), Value.int .i64 (pwF xs 6), Value.int .i64 (pwF xs 7), Value.int .i64 den], .bool (vokB den xs)]) ∧ Below w.heap.size w w' := by
  by_cases h : xs.length ≤ 8
  · have e0 : pwN xs = xs.length := if_pos h
    have e1 : ∀ j, pwF xs j = at8 xs j := fun j => if_pos h
    have e2 : vokB den xs = rgtB (at8 xs) den := by unfold vokB; rw [decide_eq_true h]; rfl
    simp only [e0, e1, e2]
    exact powersOf_yes den a cap xs w h hs
  · have e0 : pwN xs = 0 := if_neg h
    have e1 : ∀ j, pwF xs j = 0 := fun j => if_neg h
    have e2 : vokB den xs = false := by unfold vokB; rw [decide_eq_false h]; rfl
    simp only [e0, e1, e2]
    exact powersOf_no den a xs.length cap w (by omega) hs.le

set_option maxHeartbeats 400000 in
theorem vecOkI (den : Int) (a : Option Addr) (cap : Nat) (xs : List Int) (w : World) (hs : Seg w a xs.length cap xs) :
    Calls Tryz.prog 55 #[.agg #[.int .i64 den, .slice a xs.length cap]] w fun e w' => e = .returned (.bool (vokB den xs)) ∧ Below w.heap.size w w' := by
  have HB := hide (bl_alloc (bl_refl w) (Obj.cells #[Value.int .i64 den, Value.slice a xs.length cap] 43))
  have HS := hide (hs.below HB.out)
  clear hs
  go_enter Tryz.func55, Tryz.ntmps55
  go_wp2_with fail
  refine (powersOf den a cap xs _ HS.out).mono ?_
  rintro e w2 ⟨rfl, hb⟩
  have HB2 := hide (bl_trans HB.out hb)
  clear hb HB HS
  go_wp2
  go_ret
  exact ⟨rfl, bl_alloc HB2.out _⟩
end Go.Proofs.YtnjaejaibbgkpaaGreat.V

/- The walk of the specification's VecOk. -/
namespace Go.Proofs.YtnjaejaibbgkpaaGreat.V
open Go.RowKit
set_option linter.unusedVariables false
set_option maxRecDepth 20000

theorem gsh_pad (n : Int) (f : Nat → Int) (k : Nat) (h0 : 0 ≤ gsh n f k) (hz : ∀ j, k ≤ j → f j = 0) : ∀ m, k ≤ m → gsh n f m = gsh n f k
  | 0, h => by obtain rfl : k = 0 := by omega
               rfl
  | m + 1, h => by
    by_cases e : k = m + 1
    · subst e; rfl
    · have ih := gsh_pad n f k h0 hz m (by omega)
      show ((Int.gcd (gsh n f m) (f m) : Nat) : Int) = gsh n f k
      rw [ih, hz m (by omega), Int.gcd_zero_right]
      omega
theorem gsh_nn (n : Int) (f : Nat → Int) (hn : 0 ≤ n) : ∀ k, 0 ≤ gsh n f k
  | 0 => hn
  | k + 1 => by unfold gsh; omega
theorem gsh_congr (n : Int) (f g : Nat → Int) : ∀ k, (∀ j, j < k → f j = g j) → gsh n f k = gsh n g k
  | 0, _ => rfl
  | k + 1, h => by unfold gsh; rw [gsh_congr n f g k (fun j hj => h j (by omega)), h k (by omega)]
theorem vok_false_of_win (den : Int) (xs : List Int) (k : Nat) (hk : k < xs.length) (h : xs[k] < -100000 ∨ 100000 < xs[k]) : vokB den xs = false := by
  cases e : vokB den xs with
  | false => rfl
  | true =>
    unfold vokB rgtB at e
    simp only [Bool.and_eq_true, decide_eq_true_eq] at e
    have := (winB_iff 100000 (at8 xs)).1 e.2.1.2 k (by omega)
    rw [at8_lt hk] at this
    omega
theorem vok_end (den : Int) (xs : List Int) (h8 : xs.length ≤ 8) (hd : 1 ≤ den ∧ den ≤ 720) (hw : ∀ j, j < xs.length → -100000 ≤ at8 xs j ∧ at8 xs j ≤ 100000) : vokB den xs = (gsh den (at8 xs) xs.length == 1) := by
  have hw8 : winB 100000 (at8 xs) = true := (winB_iff _ _).2 (fun j hj => by
    by_cases h : j < xs.length
    · exact hw j h
    · rw [at8_ge (by omega)]; omega)
  unfold vokB rgtB
  rw [decide_eq_true h8, decide_eq_true hd, hw8, gsh_pad den (at8 xs) xs.length (gsh_nn _ _ (by omega) _) (fun j hj => at8_ge hj) 8 h8]
  rfl

set_option maxHeartbeats 1000000 in
theorem vecOkS (den : Int) (a : Option Addr) (cap : Nat) (xs : List Int) (w : World) (hs : Seg w a xs.length cap xs) :
    Calls Tryz.prog 23 #[.agg #[.int .i64 den, .slice a xs.length cap]] w fun e w' => e = .returned (.bool (vokB den xs)) ∧ Below w.heap.size w w' := by
  have HB := hide (bl_alloc (bl_refl w) (Obj.cells #[Value.int .i64 den, Value.slice a xs.length cap] 43))
  have HS := hide (hs.below HB.out)
  have hle := hs.le
  have hcl := hs.2.1
  have hcm := hs.2.2.1
  clear hs
  by_cases h8 : (8 : Int) < (xs.length : Int)
  · have HV : Hid (vokB den xs = false) := hide (by unfold vokB; rw [decide_eq_false (by omega)]; rfl)
    go_enter Tryz.func23, Tryz.ntmps23
    go_wp2
    go_ret
    exact ⟨ret_bool HV.out.symm, HB.out⟩
  by_cases hd : den < 1 ∨ 720 < den
  · have HV : Hid (vokB den xs = false) := hide (by unfold vokB rgtB; rw [decide_eq_false (p := 1 ≤ den ∧ den ≤ 720) (by omega)]; simp)
    have HD := hide hd
    clear hd
    go_enter Tryz.func23, Tryz.ntmps23
    go_wp2_with (go_at_call 48; refine (inS_no _ _ _ _ HD.out).mono ?_; rintro e w1 ⟨rfl, hw⟩; subst w1)
    go_ret
    exact ⟨ret_bool HV.out.symm, HB.out⟩
  have hd1 : 1 ≤ den := by omega
  have hd2 : den ≤ 720 := by omega
  clear hd
  have k0 : (w.alloc (Obj.cells #[Value.int .i64 den, Value.slice a xs.length cap] 43)).cell? ⟨w.heap.size, 0, none⟩ = some (Value.int .i64 den) := by go_simp
  have k1 : (w.alloc (Obj.cells #[Value.int .i64 den, Value.slice a xs.length cap] 43)).cell? ⟨w.heap.size, 1, none⟩ = some (Value.slice a xs.length cap) := by go_simp
  go_enter Tryz.func23, Tryz.ntmps23
  go_wp2_with (go_at_call 48; refine (inS_yes _ _ _ _ hd1 hd2).mono ?_; rintro e w1 ⟨rfl, hw⟩; subst w1)
  generalize w.alloc (Obj.cells #[Value.int .i64 den, Value.slice a xs.length cap] 43) = w1 at *
  go_loopw [3, 4] (fun g i wr => ∃ k : Nat, k ≤ xs.length ∧ i = .int .i64 k ∧ g = .int .i64 (gsh den (at8 xs) k) ∧ Hid (∀ j, j < k → -100000 ≤ at8 xs j ∧ at8 xs j ≤ 100000) ∧ ∃ m, wr = w1.drewN m) (fun _ i _ => xs.length - (intOf i).toNat)
  case atStart => exact ⟨0, Nat.zero_le _, rfl, rfl, hide (fun j h => by omega), 0, rfl⟩
  case round =>
    obtain ⟨k, hk, rfl, rfl, hj, m, rfl⟩ := hrel
    by_cases hlt : k < xs.length
    · have hlt' : (k : Int) < (xs.length : Int) := by omega
      rcases HS.out.2.2.2 with h0 | ⟨g, o, rfl, hg, hc⟩
      · omega
      have hc1 := hc k hlt
      clear hc
      by_cases hr : xs[k] < -100000 ∨ 100000 < xs[k]
      · have HV := hide (vok_false_of_win den xs k hlt hr)
        have HR := hide hr
        clear hr
        generalize xs[k] = x at *
        go_wp2_with (go_at_call 48; refine (inS_no _ _ _ _ HR.out).mono ?_; rintro e w1 ⟨rfl, hw⟩; subst w1)
        go_ret
        exact ⟨ret_bool HV.out.symm, below_drewN HB.out m⟩
      · have hx1 : -100000 ≤ xs[k] := by omega
        have hx2 : xs[k] ≤ 100000 := by omega
        have e1 := at8_lt hlt
        have HN : Hid (∀ j, j < k + 1 → -100000 ≤ at8 xs j ∧ at8 xs j ≤ 100000) := hide (fun j h => by
          by_cases e : j = k
          · subst e; rw [e1]; omega
          · exact hj.out j (by omega))
        have hg0 := gsh_nn den (at8 xs) (by omega) k
        have hg1 : gsh den (at8 xs) k ≤ 100000 := by
          have : ∀ i, i ≤ k → -100000 ≤ gsh den (at8 xs) i ∧ gsh den (at8 xs) i ≤ 100000 := by
            intro i
            induction i with
            | zero => intro _; exact ⟨by unfold gsh; omega, by unfold gsh; omega⟩
            | succ i ih =>
              intro hi
              have := gcd_bd (gsh den (at8 xs) i) (at8 xs i) 100000 (ih (by omega)) (hj.out i (by omega))
              unfold gsh; omega
          exact (this k (Nat.le_refl _)).2
        have HG : Hid (gsh den (at8 xs) (k + 1) = (Int.gcd (gsh den (at8 xs) k) xs[k] : Nat)) := hide (by rw [← e1]; rfl)
        clear hj hr e1
        generalize xs[k] = x at *
        generalize gsh den (at8 xs) k = gk at *
        go_wp2_with (first
          | (go_at_call 48; refine (inS_yes _ _ _ _ hx1 hx2).mono ?_; rintro e w1 ⟨rfl, hw⟩; subst w1)
          | (go_at_call 49; refine (gcdS_in _ _ _ (by omega) (by omega) (by omega) (by omega)).mono ?_; rintro e w2 ⟨rfl, m2, rfl⟩))
        exact ⟨⟨k + 1, by omega, by go_num, by rw [HG.out], HN, m + m2, rfl⟩, by simp [intOf]; omega⟩
    · obtain rfl : k = xs.length := by omega
      have HV := hide (vok_end den xs (by omega) ⟨hd1, hd2⟩ hj.out)
      clear hj
      generalize gsh den (at8 xs) xs.length = gk at *
      go_wp2
      go_ret
      exact ⟨ret_bool HV.out.symm, below_drewN HB.out m⟩
end Go.Proofs.YtnjaejaibbgkpaaGreat.V
