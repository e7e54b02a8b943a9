/- The walk of placesOf. -/
import Derived.Test.YtkfiidldappdcaaRight
namespace Go.Proofs.Ytkfiidldappdcaa
open Go.RowKit
set_option linter.unusedVariables false

/-- a list as eight places, noughts behind it -/
def at8 (xs : List Int) (j : Nat) : Int := xs.getD j 0
theorem at8_lt {xs : List Int} {j : Nat} (h : j < xs.length) : at8 xs j = xs[j] := by unfold at8; simp [h]
theorem at8_ge {xs : List Int} {j : Nat} (h : xs.length ≤ j) : at8 xs j = 0 := by unfold at8; simp [h]

theorem below_setCells (B b : Nat) (h : B ≤ b) : ∀ (vs : List Value) (o : Nat) (w0 w : World), Below B w0 w → Below B w0 (w.setCells b o vs)
  | [], _, _, _, hb => hb
  | v :: r, o, w0, w, hb => below_setCells B b h r (o + 1) w0 (w.setCell ⟨b, o, none⟩ v) (hb.setCell (p := ⟨b, o, none⟩) h v)
/-- a list of at most eight copied into an array of eight noughts -/
theorem copy8 (W : World) (N : Nat) (a : Option Addr) (cap : Nat) (xs : List Int) (h8 : xs.length ≤ 8) (hs : Seg W a xs.length cap xs) (hc : ∀ j, j < 8 → W.cell? ⟨N, 1 + j, none⟩ = some (.int .i64 0)) (hf : ∀ j, j < 8 → W.frozen? ⟨N, 1 + j, none⟩ = false) :
    ∃ W', Sem.run Try.prog (Builtin.copy_ #[27, 27] 3 #[Value.slice (some ⟨N, 1, none⟩) 8 8, Value.slice a xs.length cap]) W = .ok (.int .i64 (xs.length : Int)) W' ∧ (∀ j, j < 8 → W'.cell? ⟨N, 1 + j, none⟩ = some (.int .i64 (at8 xs j))) ∧ (∀ b o, (b ≠ N ∨ o = 0) → W'.cell? ⟨b, o, none⟩ = W.cell? ⟨b, o, none⟩) ∧ (∀ x, W'.frozen? x = W.frozen? x) ∧ (∀ B w0, B ≤ N → Below B w0 W → Below B w0 W') := by
  have hsz : (Try.prog.info? 3).map (·.size) = some 1 := by
    obtain ⟨i0, hi, hz0, hz1, hz2⟩ := info_parts Try.info3
    rw [hi]; simp [hz1]
  rcases hs.2.2.2 with h0 | ⟨g, o, rfl, hg, hcell⟩
  · have hnil : xs = [] := List.eq_nil_of_length_eq_zero h0
    subst hnil
    refine ⟨W, run_copy_none W 27 27 3 3 _ _ _ _ _ _ Try.underlying27 hsz rfl, fun j hj => ?_, fun _ _ _ => rfl, fun _ => rfl, fun _ _ _ h => h⟩
    rw [hc j hj]; rfl
  · have hn : (xs.map lim).length = Nat.min xs.length 8 := by simp [Nat.min_def]; omega
    have hrun := run_copy_cells (P := Try.prog) W 27 27 3 3 N 1 8 8 ⟨g, o, none⟩ xs.length cap (xs.map lim) Try.underlying27 hsz hn (fun j v hv => by
        obtain ⟨hj, rfl⟩ := List.getElem?_eq_some_iff.1 hv
        have hj' : j < xs.length := by simpa using hj
        have := hcell j hj'
        by_cases hj0 : j = 0
        · subst hj0; simpa [Addr.add, lim] using this
        · simpa [Addr.add, hj0, lim] using this)
      (fun j hj => by rw [hc j (by simp at hj; omega)]; rfl) (fun j hj => hf j (by simp at hj; omega)) (one_lims xs)
    have hlen : (xs.map lim).length = xs.length := by simp
    refine ⟨W.setCells N 1 (xs.map lim), ?_, fun j hj => ?_, fun b o hbo => ?_, fun x => World.frozen?_setCells N _ _ _ x, fun B w0 hB hb => below_setCells B N hB _ _ _ _ hb⟩
    · rw [hrun, hlen]; rfl
    · by_cases hjl : j < xs.length
      · rw [World.cell?_setCells_in N (xs.map lim) 1 W (fun j hj => by rw [hc j (by simp at hj; omega)]; rfl) j (by simpa using hjl), at8_lt hjl]
        simp [lim]
      · rw [World.cell?_setCells_out N (xs.map lim) 1 W ⟨N, 1 + j, none⟩ (fun _ _ => .inr (by simp; omega)), hc j hj, at8_ge (by omega)]
    · refine World.cell?_setCells_out N (xs.map lim) 1 W ⟨b, o, none⟩ (fun hb _ => .inl ?_)
      rcases hbo with h | h
      · exact absurd hb h
      · dsimp only; omega

set_option maxHeartbeats 400000 in
theorem placesOf_no (a : Option Addr) (n cap : Nat) (w : World) (h : 8 < n) (hn : n ≤ 9223372036854775807) :
    Calls Try.prog 67 #[.slice a n cap] w fun e w' => e = .returned (.tuple #[Value.agg #[Value.int .i64 0, Value.int .i64 0, Value.int .i64 0, Value.int .i64 0, Value.int .i64 0, Value.int .i64 0, Value.int .i64 0, Value.int .i64 0, Value.int .i64 0], .bool false]) ∧ Below w.heap.size w w' := by
  have h' : (8 : Int) < (n : Int) := by omega
  go_enter Try.func67, Try.ntmps67
  go_wp2
  exact bodyPost_ret (v := .tuple #[Value.agg #[Value.int .i64 0, Value.int .i64 0, Value.int .i64 0, Value.int .i64 0, Value.int .i64 0, Value.int .i64 0, Value.int .i64 0, Value.int .i64 0, Value.int .i64 0], .bool false]) (by simp [results, Try.results67, go_sem]) rfl ⟨rfl, bl_alloc (bl_refl w) _⟩

set_option maxHeartbeats 400000 in
theorem placesOf_yes (a : Option Addr) (cap : Nat) (xs : List Int) (w : World) (h : xs.length ≤ 8) (hs : Seg w a xs.length cap xs) :
    Calls Try.prog 67 #[.slice a xs.length cap] w fun e w' => e = .returned (.tuple #[Value.agg #[Value.int .i64 (xs.length : Int), Value.int .i64 (at8 xs 0), Value.int .i64 (at8 xs 1), Value.int .i64 (at8 xs 2), Value.int .i64 (at8 xs 3), Value.int .i64 (at8 xs 4), Value.int .i64 (at8 xs 5), Value.int .i64 (at8 xs 6), Value.int .i64 (at8 xs 7)], .bool true]) ∧ Below w.heap.size w w' := by
  have h' : ¬ (8 : Int) < (xs.length : Int) := by omega
  have hb0 := bl_alloc (bl_alloc (bl_refl w) (Obj.cells #[Value.int .i64 0, Value.int .i64 0, Value.int .i64 0, Value.int .i64 0, Value.int .i64 0, Value.int .i64 0, Value.int .i64 0, Value.int .i64 0, Value.int .i64 0] 65)) (Obj.cells #[Value.int .i64 (xs.length : Int), Value.int .i64 0, Value.int .i64 0, Value.int .i64 0, Value.int .i64 0, Value.int .i64 0, Value.int .i64 0, Value.int .i64 0, Value.int .i64 0] 65)
  obtain ⟨W', hrun, hin, hout, hfr, hbel⟩ := copy8 ((w.alloc (Obj.cells #[Value.int .i64 0, Value.int .i64 0, Value.int .i64 0, Value.int .i64 0, Value.int .i64 0, Value.int .i64 0, Value.int .i64 0, Value.int .i64 0, Value.int .i64 0] 65)).alloc (Obj.cells #[Value.int .i64 (xs.length : Int), Value.int .i64 0, Value.int .i64 0, Value.int .i64 0, Value.int .i64 0, Value.int .i64 0, Value.int .i64 0, Value.int .i64 0, Value.int .i64 0] 65)) (w.heap.size + 1) a cap xs h (hs.below hb0)
    (fun j hj => by
      have : j = 0 ∨ j = 1 ∨ j = 2 ∨ j = 3 ∨ j = 4 ∨ j = 5 ∨ j = 6 ∨ j = 7 := by omega
      rcases this with rfl | rfl | rfl | rfl | rfl | rfl | rfl | rfl <;> go_simp)
    (fun j hj => by
      have : j = 0 ∨ j = 1 ∨ j = 2 ∨ j = 3 ∨ j = 4 ∨ j = 5 ∨ j = 6 ∨ j = 7 := by omega
      rcases this with rfl | rfl | rfl | rfl | rfl | rfl | rfl | rfl <;> go_simp)
  have b0 : W'.cell? ⟨w.heap.size + 1, 0, none⟩ = some (.int .i64 (xs.length : Int)) := (hout _ 0 (.inr rfl)).trans (by go_simp)
  have b1 : W'.cell? ⟨w.heap.size + 1, 1, none⟩ = some (.int .i64 (at8 xs 0)) := hin 0 (by omega)
  have b2 : W'.cell? ⟨w.heap.size + 1, 2, none⟩ = some (.int .i64 (at8 xs 1)) := hin 1 (by omega)
  have b3 : W'.cell? ⟨w.heap.size + 1, 3, none⟩ = some (.int .i64 (at8 xs 2)) := hin 2 (by omega)
  have b4 : W'.cell? ⟨w.heap.size + 1, 4, none⟩ = some (.int .i64 (at8 xs 3)) := hin 3 (by omega)
  have b5 : W'.cell? ⟨w.heap.size + 1, 5, none⟩ = some (.int .i64 (at8 xs 4)) := hin 4 (by omega)
  have b6 : W'.cell? ⟨w.heap.size + 1, 6, none⟩ = some (.int .i64 (at8 xs 5)) := hin 5 (by omega)
  have b7 : W'.cell? ⟨w.heap.size + 1, 7, none⟩ = some (.int .i64 (at8 xs 6)) := hin 6 (by omega)
  have b8 : W'.cell? ⟨w.heap.size + 1, 8, none⟩ = some (.int .i64 (at8 xs 7)) := hin 7 (by omega)
  have r0 : W'.cell? ⟨w.heap.size, 0, none⟩ = some (.int .i64 0) := (hout _ _ (.inl (by omega))).trans (by go_simp)
  have f0 : W'.frozen? ⟨w.heap.size, 0, none⟩ = false := (hfr _).trans (by go_simp)
  have r1 : W'.cell? ⟨w.heap.size, 1, none⟩ = some (.int .i64 0) := (hout _ _ (.inl (by omega))).trans (by go_simp)
  have f1 : W'.frozen? ⟨w.heap.size, 1, none⟩ = false := (hfr _).trans (by go_simp)
  have r2 : W'.cell? ⟨w.heap.size, 2, none⟩ = some (.int .i64 0) := (hout _ _ (.inl (by omega))).trans (by go_simp)
  have f2 : W'.frozen? ⟨w.heap.size, 2, none⟩ = false := (hfr _).trans (by go_simp)
  have r3 : W'.cell? ⟨w.heap.size, 3, none⟩ = some (.int .i64 0) := (hout _ _ (.inl (by omega))).trans (by go_simp)
  have f3 : W'.frozen? ⟨w.heap.size, 3, none⟩ = false := (hfr _).trans (by go_simp)
  have r4 : W'.cell? ⟨w.heap.size, 4, none⟩ = some (.int .i64 0) := (hout _ _ (.inl (by omega))).trans (by go_simp)
  have f4 : W'.frozen? ⟨w.heap.size, 4, none⟩ = false := (hfr _).trans (by go_simp)
  have r5 : W'.cell? ⟨w.heap.size, 5, none⟩ = some (.int .i64 0) := (hout _ _ (.inl (by omega))).trans (by go_simp)
  have f5 : W'.frozen? ⟨w.heap.size, 5, none⟩ = false := (hfr _).trans (by go_simp)
  have r6 : W'.cell? ⟨w.heap.size, 6, none⟩ = some (.int .i64 0) := (hout _ _ (.inl (by omega))).trans (by go_simp)
  have f6 : W'.frozen? ⟨w.heap.size, 6, none⟩ = false := (hfr _).trans (by go_simp)
  have r7 : W'.cell? ⟨w.heap.size, 7, none⟩ = some (.int .i64 0) := (hout _ _ (.inl (by omega))).trans (by go_simp)
  have f7 : W'.frozen? ⟨w.heap.size, 7, none⟩ = false := (hfr _).trans (by go_simp)
  have r8 : W'.cell? ⟨w.heap.size, 8, none⟩ = some (.int .i64 0) := (hout _ _ (.inl (by omega))).trans (by go_simp)
  have f8 : W'.frozen? ⟨w.heap.size, 8, none⟩ = false := (hfr _).trans (by go_simp)
  have HB := hide (hbel w.heap.size w (by omega) hb0)
  clear hin hout hfr hbel hb0 hs
  go_enter Try.func67, Try.ntmps67
  go_wp2
  refine bodyPost_ret (v := .tuple #[Value.agg #[Value.int .i64 (xs.length : Int), Value.int .i64 (at8 xs 0), Value.int .i64 (at8 xs 1), Value.int .i64 (at8 xs 2), Value.int .i64 (at8 xs 3), Value.int .i64 (at8 xs 4), Value.int .i64 (at8 xs 5), Value.int .i64 (at8 xs 6), Value.int .i64 (at8 xs 7)], .bool true]) (by simp [results, Try.results67, go_sem, *]) rfl ⟨rfl, ?_⟩
  exact (((((((((HB.out.setCell (p := ⟨w.heap.size, 0, none⟩) (Nat.le_refl _) _).setCell (p := ⟨w.heap.size, 1, none⟩) (Nat.le_refl _) _).setCell (p := ⟨w.heap.size, 2, none⟩) (Nat.le_refl _) _).setCell (p := ⟨w.heap.size, 3, none⟩) (Nat.le_refl _) _).setCell (p := ⟨w.heap.size, 4, none⟩) (Nat.le_refl _) _).setCell (p := ⟨w.heap.size, 5, none⟩) (Nat.le_refl _) _).setCell (p := ⟨w.heap.size, 6, none⟩) (Nat.le_refl _) _).setCell (p := ⟨w.heap.size, 7, none⟩) (Nat.le_refl _) _).setCell (p := ⟨w.heap.size, 8, none⟩) (Nat.le_refl _) _)
end Go.Proofs.Ytkfiidldappdcaa
