/- My texts BkI, LawBookOk, in this order. -/
import Derived.Test.YtnjaejaibbgkpaaGreatPk20
import Derived.Test.YtnjaejaibbgkpaaGreatMp
import Derived.Test.YtnjaejaibbgkpaaGreatPk14
import Derived.Deep.RegionHeld3
/- catalogOf and BookOk of the program. -/
namespace Go.Proofs.YtnjaejaibbgkpaaGreat
open Go.RowKit Go.Maps
set_option linter.unusedVariables false
set_option maxRecDepth 20000

theorem hgro {w w' : World} {b : Nat} {o : Obj} {r : Option Nat} (hb : w.heap[b]? = some o) (h : w.grownBy w' r) (hne : some b ≠ r) : w'.heap[b]? = some o := (h.block b (hlt hb) hne).trans hb
theorem mem_take {ts : List ByteArray} {k : Nat} {s : ByteArray} : s ∈ ts.take k ↔ ∃ j, ∃ h : j < ts.length, j < k ∧ ts[j] = s := by
  constructor
  · intro h
    obtain ⟨j, hj, e⟩ := List.getElem_of_mem h
    have hj' : j < k ∧ j < ts.length := by have h2 : j < min k ts.length := (by simpa using hj); omega
    exact ⟨j, hj'.2, hj'.1, by rw [← e]; simp⟩
  · rintro ⟨j, h, hk, rfl⟩
    exact List.mem_iff_getElem.2 ⟨j, by simp; omega, by simp⟩
theorem clean_nodup {ts : List ByteArray} : ∀ {k : Nat}, Clean ts k → (ts.take k).Nodup
  | 0, _ => by simp
  | k + 1, h => by
    by_cases hk : k < ts.length
    · rw [List.take_succ_eq_append_getElem hk]
      have h1 : Clean ts k := fun i hi hik => h i hi (by omega)
      refine List.nodup_append.2 ⟨clean_nodup h1, by simp, ?_⟩
      intro a ha b hb e
      have hb' : b = ts[k] := by simpa using hb
      obtain ⟨j, hj, hjk, ej⟩ := mem_take.1 ha
      exact (h k hk (by omega)).2 j hjk (by rw [ej, e, hb'])
    · rw [List.take_of_length_le (by omega)]
      have h1 : Clean ts k := fun i hi hik => h i hi (by omega)
      have := clean_nodup h1
      rwa [List.take_of_length_le (by omega)] at this
theorem clean_next {ts : List ByteArray} {k : Nat} (h : Clean ts k) (hk : k < ts.length) : (ts[k] ∉ ts.take k ∧ Nm.nameOkB ts[k] = true) ↔ Clean ts (k + 1) := by
  constructor
  · rintro ⟨h1, h2⟩ i hi hik
    by_cases e : i = k
    · subst e; exact ⟨h2, fun j hj e => h1 (mem_take.2 ⟨j, by omega, hj, e⟩)⟩
    · exact h i hi (by omega)
  · intro h'
    refine ⟨fun hm => ?_, (h' k hk (by omega)).1⟩
    obtain ⟨j, hj, hjk, e⟩ := mem_take.1 hm
    exact (h' k hk (by omega)).2 j hjk e

theorem bN_left {bs : List ByteArray} {us : List (List Lf)} {k : Nat} (h : k < bs.length) (h' : k < (bNames bs us).length) : (bNames bs us)[k] = bs[k] := List.getElem_append_left h
theorem bN_right {bs : List ByteArray} {us : List (List Lf)} {n j : Nat} (hn : bs.length = n) (h : j < us.length) (h' : n + j < (bNames bs us).length) : (bNames bs us)[n + j] = nmOf us[j] := by
  subst hn
  have e : (bNames bs us)[bs.length + j] = (us.map nmOf)[bs.length + j - bs.length]'(by simp; omega) := List.getElem_append_right (by omega)
  rw [e, List.getElem_map]
  congr 2
  omega
/-- what catalogOf tells -/
def CatPost (S1 S2 S3 : Value) (bs : List ByteArray) (ps us : List (List Lf)) (w : World) (e : Ending) (w' : World) : Prop :=
  (e = .returned (.tuple #[Value.agg #[Value.slice none 0 0, Value.slice none 0 0, Value.slice none 0 0, Value.map none, Value.map none], .bool false]) ∧ ¬ BookP bs ps us ∧ Below w.heap.size w w') ∨
  ∃ B1 B2, e = .returned (.tuple #[.agg #[S1, S2, S3, .map (some B1), .map (some B2)], .bool true]) ∧ BookP bs ps us ∧ MapN w' B1 (bNames bs us) ∧ MapN w' B2 (ps.map nmOf) ∧ (w.heap.size ≤ B1 ∧ w.heap.size ≤ B2) ∧ Below w.heap.size w w'

set_option maxHeartbeats 4000000 in
set_option maxRecDepth 20000 in
theorem catalogI (ad : Addr) (n c : Nat) (bs : List ByteArray) (b : Option Addr) (m d : Nat) (ps : List (List Lf)) (e : Option Addr) (l f : Nat) (us : List (List Lf)) (X Y : Nat → Prop) (w : World) (hs : SSeg w (some ad) n c bs) (hp : RSeg w X 5 b m d ps) (hsp : ∀ r ∈ ps, ShPf r) (hu : RSeg w Y 7 e l f us) (hsu : ∀ r ∈ us, ShUn r) (ht : stot bs + (rtot ps + rtot us) ≤ 1048576) :
    Calls Tryz.prog 30 #[Value.agg #[Value.slice (some ad) n c, Value.slice b m d, Value.slice e l f]] w fun e' w' => CatPost (Value.slice (some ad) n c) (Value.slice b m d) (Value.slice e l f) bs ps us w e' w' := by
  have hnl := hs.1
  have hml := hp.1
  have hll := hu.1
  have hn2 : n ≤ 9223372036854775807 := Nat.le_trans hs.2.1 hs.2.2.1
  have hcn := hs.2.1
  have hcn2 := hs.2.2.1
  have hm2 := hp.le
  have hl2 := hu.le
  have hcp := hp.2.1
  have hcp2 := hp.2.2.1
  have hcl := hu.2.1
  have hcl2 := hu.2.2.1
  have HS := hide hs
  have HP := hide hp
  have HU := hide hu
  have hN : (bNames bs us).length = n + l := by simp [bNames]; omega
  have HN := hide hN
  have hmz : Hid (∀ t ∈ bNames bs us, t.size ≤ 140737488355328) := hide (fun t h => by
    have := stot_mem h
    have := stot_names bs us
    omega)
  have hmz2 : Hid (∀ t ∈ ps.map nmOf, t.size ≤ 140737488355328) := hide (fun t h => by
    have := stot_mem h
    have := stot_heads ps
    omega)
  clear hs hp hu hN
  by_cases h6 : (6 : Int) < (n : Int)
  · have XB : Hid (((w.alloc (Obj.cells #[Value.slice (some ad) n c, Value.slice b m d, Value.slice e l f] 32)).alloc (Obj.cells #[Value.slice none 0 0, Value.slice none 0 0, Value.slice none 0 0, Value.map none, Value.map none] 68)).heap[w.heap.size]? = some (Obj.cells #[Value.slice (some ad) n c, Value.slice b m d, Value.slice e l f] 32)) := hide (hnewer (hnew _ _) _)
    have k0 : ((w.alloc (Obj.cells #[Value.slice (some ad) n c, Value.slice b m d, Value.slice e l f] 32)).alloc (Obj.cells #[Value.slice none 0 0, Value.slice none 0 0, Value.slice none 0 0, Value.map none, Value.map none] 68)).cell? ⟨w.heap.size, 0, none⟩ = some (Value.slice (some ad) n c) := (Lib.cell_of_heap XB.out 0).trans rfl
    have k1 : ((w.alloc (Obj.cells #[Value.slice (some ad) n c, Value.slice b m d, Value.slice e l f] 32)).alloc (Obj.cells #[Value.slice none 0 0, Value.slice none 0 0, Value.slice none 0 0, Value.map none, Value.map none] 68)).cell? ⟨w.heap.size, 1, none⟩ = some (Value.slice b m d) := (Lib.cell_of_heap XB.out 1).trans rfl
    have k2 : ((w.alloc (Obj.cells #[Value.slice (some ad) n c, Value.slice b m d, Value.slice e l f] 32)).alloc (Obj.cells #[Value.slice none 0 0, Value.slice none 0 0, Value.slice none 0 0, Value.map none, Value.map none] 68)).cell? ⟨w.heap.size, 2, none⟩ = some (Value.slice e l f) := (Lib.cell_of_heap XB.out 2).trans rfl
    have HB : Hid (Below w.heap.size w ((w.alloc (Obj.cells #[Value.slice (some ad) n c, Value.slice b m d, Value.slice e l f] 32)).alloc (Obj.cells #[Value.slice none 0 0, Value.slice none 0 0, Value.slice none 0 0, Value.map none, Value.map none] 68))) := hide (bl_alloc (bl_alloc (bl_refl w) _) _)
    go_enter Tryz.func30, Tryz.ntmps30
    go_wp2
    refine bodyPost_ret (v := .tuple #[Value.agg #[Value.slice none 0 0, Value.slice none 0 0, Value.slice none 0 0, Value.map none, Value.map none], .bool false]) (by simp [results, Tryz.results30, go_sem]) rfl ?_
    exact .inl ⟨rfl, fun h => by have := h.1; omega, HB.out⟩
  by_cases h12 : (12 : Int) < (m : Int)
  · have XB : Hid (((w.alloc (Obj.cells #[Value.slice (some ad) n c, Value.slice b m d, Value.slice e l f] 32)).alloc (Obj.cells #[Value.slice none 0 0, Value.slice none 0 0, Value.slice none 0 0, Value.map none, Value.map none] 68)).heap[w.heap.size]? = some (Obj.cells #[Value.slice (some ad) n c, Value.slice b m d, Value.slice e l f] 32)) := hide (hnewer (hnew _ _) _)
    have k0 : ((w.alloc (Obj.cells #[Value.slice (some ad) n c, Value.slice b m d, Value.slice e l f] 32)).alloc (Obj.cells #[Value.slice none 0 0, Value.slice none 0 0, Value.slice none 0 0, Value.map none, Value.map none] 68)).cell? ⟨w.heap.size, 0, none⟩ = some (Value.slice (some ad) n c) := (Lib.cell_of_heap XB.out 0).trans rfl
    have k1 : ((w.alloc (Obj.cells #[Value.slice (some ad) n c, Value.slice b m d, Value.slice e l f] 32)).alloc (Obj.cells #[Value.slice none 0 0, Value.slice none 0 0, Value.slice none 0 0, Value.map none, Value.map none] 68)).cell? ⟨w.heap.size, 1, none⟩ = some (Value.slice b m d) := (Lib.cell_of_heap XB.out 1).trans rfl
    have k2 : ((w.alloc (Obj.cells #[Value.slice (some ad) n c, Value.slice b m d, Value.slice e l f] 32)).alloc (Obj.cells #[Value.slice none 0 0, Value.slice none 0 0, Value.slice none 0 0, Value.map none, Value.map none] 68)).cell? ⟨w.heap.size, 2, none⟩ = some (Value.slice e l f) := (Lib.cell_of_heap XB.out 2).trans rfl
    have HB : Hid (Below w.heap.size w ((w.alloc (Obj.cells #[Value.slice (some ad) n c, Value.slice b m d, Value.slice e l f] 32)).alloc (Obj.cells #[Value.slice none 0 0, Value.slice none 0 0, Value.slice none 0 0, Value.map none, Value.map none] 68))) := hide (bl_alloc (bl_alloc (bl_refl w) _) _)
    go_enter Tryz.func30, Tryz.ntmps30
    go_wp2
    refine bodyPost_ret (v := .tuple #[Value.agg #[Value.slice none 0 0, Value.slice none 0 0, Value.slice none 0 0, Value.map none, Value.map none], .bool false]) (by simp [results, Tryz.results30, go_sem]) rfl ?_
    exact .inl ⟨rfl, fun h => by have := h.2.1; omega, HB.out⟩
  by_cases h24 : (24 : Int) < (l : Int)
  · have XB : Hid (((w.alloc (Obj.cells #[Value.slice (some ad) n c, Value.slice b m d, Value.slice e l f] 32)).alloc (Obj.cells #[Value.slice none 0 0, Value.slice none 0 0, Value.slice none 0 0, Value.map none, Value.map none] 68)).heap[w.heap.size]? = some (Obj.cells #[Value.slice (some ad) n c, Value.slice b m d, Value.slice e l f] 32)) := hide (hnewer (hnew _ _) _)
    have k0 : ((w.alloc (Obj.cells #[Value.slice (some ad) n c, Value.slice b m d, Value.slice e l f] 32)).alloc (Obj.cells #[Value.slice none 0 0, Value.slice none 0 0, Value.slice none 0 0, Value.map none, Value.map none] 68)).cell? ⟨w.heap.size, 0, none⟩ = some (Value.slice (some ad) n c) := (Lib.cell_of_heap XB.out 0).trans rfl
    have k1 : ((w.alloc (Obj.cells #[Value.slice (some ad) n c, Value.slice b m d, Value.slice e l f] 32)).alloc (Obj.cells #[Value.slice none 0 0, Value.slice none 0 0, Value.slice none 0 0, Value.map none, Value.map none] 68)).cell? ⟨w.heap.size, 1, none⟩ = some (Value.slice b m d) := (Lib.cell_of_heap XB.out 1).trans rfl
    have k2 : ((w.alloc (Obj.cells #[Value.slice (some ad) n c, Value.slice b m d, Value.slice e l f] 32)).alloc (Obj.cells #[Value.slice none 0 0, Value.slice none 0 0, Value.slice none 0 0, Value.map none, Value.map none] 68)).cell? ⟨w.heap.size, 2, none⟩ = some (Value.slice e l f) := (Lib.cell_of_heap XB.out 2).trans rfl
    have HB : Hid (Below w.heap.size w ((w.alloc (Obj.cells #[Value.slice (some ad) n c, Value.slice b m d, Value.slice e l f] 32)).alloc (Obj.cells #[Value.slice none 0 0, Value.slice none 0 0, Value.slice none 0 0, Value.map none, Value.map none] 68))) := hide (bl_alloc (bl_alloc (bl_refl w) _) _)
    go_enter Tryz.func30, Tryz.ntmps30
    go_wp2
    refine bodyPost_ret (v := .tuple #[Value.agg #[Value.slice none 0 0, Value.slice none 0 0, Value.slice none 0 0, Value.map none, Value.map none], .bool false]) (by simp [results, Tryz.results30, go_sem]) rfl ?_
    exact .inl ⟨rfl, fun h => by have := h.2.2.1; omega, HB.out⟩
  have hmm := @run_makeMap Tryz.prog
  have XB0 : Hid (((w.alloc (Obj.cells #[Value.slice (some ad) n c, Value.slice b m d, Value.slice e l f] 32)).alloc (Obj.cells #[Value.slice none 0 0, Value.slice none 0 0, Value.slice none 0 0, Value.map none, Value.map none] 68)).heap[w.heap.size]? = some (Obj.cells #[Value.slice (some ad) n c, Value.slice b m d, Value.slice e l f] 32)) := hide (hnewer (hnew _ _) _)
  have k0 : ((w.alloc (Obj.cells #[Value.slice (some ad) n c, Value.slice b m d, Value.slice e l f] 32)).alloc (Obj.cells #[Value.slice none 0 0, Value.slice none 0 0, Value.slice none 0 0, Value.map none, Value.map none] 68)).cell? ⟨w.heap.size, 0, none⟩ = some (Value.slice (some ad) n c) := (Lib.cell_of_heap XB0.out 0).trans rfl
  have k1 : ((w.alloc (Obj.cells #[Value.slice (some ad) n c, Value.slice b m d, Value.slice e l f] 32)).alloc (Obj.cells #[Value.slice none 0 0, Value.slice none 0 0, Value.slice none 0 0, Value.map none, Value.map none] 68)).cell? ⟨w.heap.size, 1, none⟩ = some (Value.slice b m d) := (Lib.cell_of_heap XB0.out 1).trans rfl
  have k2 : ((w.alloc (Obj.cells #[Value.slice (some ad) n c, Value.slice b m d, Value.slice e l f] 32)).alloc (Obj.cells #[Value.slice none 0 0, Value.slice none 0 0, Value.slice none 0 0, Value.map none, Value.map none] 68)).cell? ⟨w.heap.size, 2, none⟩ = some (Value.slice e l f) := (Lib.cell_of_heap XB0.out 2).trans rfl
  go_enter Tryz.func30, Tryz.ntmps30
  go_wp2
  clear k0 k1 k2 XB0
  have XB : Hid ((((((w.alloc (Obj.cells #[Value.slice (some ad) n c, Value.slice b m d, Value.slice e l f] 32)).alloc (Obj.cells #[Value.slice none 0 0, Value.slice none 0 0, Value.slice none 0 0, Value.map none, Value.map none] 68)).alloc (.map #[] 0)).alloc (.map #[] 0)).alloc (Obj.cells #[Value.slice (some ad) n c, Value.slice b m d, Value.slice e l f, Value.map (some (w.heap.size + 1 + 1)), Value.map (some (w.heap.size + 1 + 1 + 1))] 68)).heap[w.heap.size]? = some (Obj.cells #[Value.slice (some ad) n c, Value.slice b m d, Value.slice e l f] 32)) := hide (hnewer (hnewer (hnewer (hnewer (hnew _ _) _) _) _) _)
  have XR : Hid ((((((w.alloc (Obj.cells #[Value.slice (some ad) n c, Value.slice b m d, Value.slice e l f] 32)).alloc (Obj.cells #[Value.slice none 0 0, Value.slice none 0 0, Value.slice none 0 0, Value.map none, Value.map none] 68)).alloc (.map #[] 0)).alloc (.map #[] 0)).alloc (Obj.cells #[Value.slice (some ad) n c, Value.slice b m d, Value.slice e l f, Value.map (some (w.heap.size + 1 + 1)), Value.map (some (w.heap.size + 1 + 1 + 1))] 68)).heap[w.heap.size + 1]? = some (Obj.cells #[Value.slice none 0 0, Value.slice none 0 0, Value.slice none 0 0, Value.map none, Value.map none] 68)) := hide (by simpa only [World.size_alloc] using (hnewer (hnewer (hnewer (hnew (w.alloc (Obj.cells #[Value.slice (some ad) n c, Value.slice b m d, Value.slice e l f] 32)) (Obj.cells #[Value.slice none 0 0, Value.slice none 0 0, Value.slice none 0 0, Value.map none, Value.map none] 68)) (.map #[] 0)) (.map #[] 0)) (Obj.cells #[Value.slice (some ad) n c, Value.slice b m d, Value.slice e l f, Value.map (some (w.heap.size + 1 + 1)), Value.map (some (w.heap.size + 1 + 1 + 1))] 68)))
  have XN : Hid ((((((w.alloc (Obj.cells #[Value.slice (some ad) n c, Value.slice b m d, Value.slice e l f] 32)).alloc (Obj.cells #[Value.slice none 0 0, Value.slice none 0 0, Value.slice none 0 0, Value.map none, Value.map none] 68)).alloc (.map #[] 0)).alloc (.map #[] 0)).alloc (Obj.cells #[Value.slice (some ad) n c, Value.slice b m d, Value.slice e l f, Value.map (some (w.heap.size + 1 + 1)), Value.map (some (w.heap.size + 1 + 1 + 1))] 68)).heap[w.heap.size + 1 + 1 + 1 + 1]? = some (Obj.cells #[Value.slice (some ad) n c, Value.slice b m d, Value.slice e l f, Value.map (some (w.heap.size + 1 + 1)), Value.map (some (w.heap.size + 1 + 1 + 1))] 68)) := hide (by simpa only [World.size_alloc] using (hnew ((((w.alloc (Obj.cells #[Value.slice (some ad) n c, Value.slice b m d, Value.slice e l f] 32)).alloc (Obj.cells #[Value.slice none 0 0, Value.slice none 0 0, Value.slice none 0 0, Value.map none, Value.map none] 68)).alloc (.map #[] 0)).alloc (.map #[] 0)) (Obj.cells #[Value.slice (some ad) n c, Value.slice b m d, Value.slice e l f, Value.map (some (w.heap.size + 1 + 1)), Value.map (some (w.heap.size + 1 + 1 + 1))] 68)))
  have M1 : Hid (MapN (((((w.alloc (Obj.cells #[Value.slice (some ad) n c, Value.slice b m d, Value.slice e l f] 32)).alloc (Obj.cells #[Value.slice none 0 0, Value.slice none 0 0, Value.slice none 0 0, Value.map none, Value.map none] 68)).alloc (.map #[] 0)).alloc (.map #[] 0)).alloc (Obj.cells #[Value.slice (some ad) n c, Value.slice b m d, Value.slice e l f, Value.map (some (w.heap.size + 1 + 1)), Value.map (some (w.heap.size + 1 + 1 + 1))] 68)) (w.heap.size + 1 + 1) ((bNames bs us).take 0)) := hide (by
    have h := ((World.ownsMap_made ((w.alloc (Obj.cells #[Value.slice (some ad) n c, Value.slice b m d, Value.slice e l f] 32)).alloc (Obj.cells #[Value.slice none 0 0, Value.slice none 0 0, Value.slice none 0 0, Value.map none, Value.map none] 68)) Tryz.prog 9 (plainElem (H := Unit) Tryz.prog 3)).alloc (.map #[] 0)).alloc (Obj.cells #[Value.slice (some ad) n c, Value.slice b m d, Value.slice e l f, Value.map (some (w.heap.size + 1 + 1)), Value.map (some (w.heap.size + 1 + 1 + 1))] 68)
    simp only [World.size_alloc] at h
    exact h)
  have M2 : Hid (MapN (((((w.alloc (Obj.cells #[Value.slice (some ad) n c, Value.slice b m d, Value.slice e l f] 32)).alloc (Obj.cells #[Value.slice none 0 0, Value.slice none 0 0, Value.slice none 0 0, Value.map none, Value.map none] 68)).alloc (.map #[] 0)).alloc (.map #[] 0)).alloc (Obj.cells #[Value.slice (some ad) n c, Value.slice b m d, Value.slice e l f, Value.map (some (w.heap.size + 1 + 1)), Value.map (some (w.heap.size + 1 + 1 + 1))] 68)) (w.heap.size + 1 + 1 + 1) ((ps.map nmOf).take 0)) := hide (by
    have h := (World.ownsMap_made (((w.alloc (Obj.cells #[Value.slice (some ad) n c, Value.slice b m d, Value.slice e l f] 32)).alloc (Obj.cells #[Value.slice none 0 0, Value.slice none 0 0, Value.slice none 0 0, Value.map none, Value.map none] 68)).alloc (.map #[] 0)) Tryz.prog 9 (plainElem (H := Unit) Tryz.prog 3)).alloc (Obj.cells #[Value.slice (some ad) n c, Value.slice b m d, Value.slice e l f, Value.map (some (w.heap.size + 1 + 1)), Value.map (some (w.heap.size + 1 + 1 + 1))] 68)
    simp only [World.size_alloc] at h
    exact h)
  have HB : Hid (Below w.heap.size w (((((w.alloc (Obj.cells #[Value.slice (some ad) n c, Value.slice b m d, Value.slice e l f] 32)).alloc (Obj.cells #[Value.slice none 0 0, Value.slice none 0 0, Value.slice none 0 0, Value.map none, Value.map none] 68)).alloc (.map #[] 0)).alloc (.map #[] 0)).alloc (Obj.cells #[Value.slice (some ad) n c, Value.slice b m d, Value.slice e l f, Value.map (some (w.heap.size + 1 + 1)), Value.map (some (w.heap.size + 1 + 1 + 1))] 68))) := hide (bl_alloc (bl_alloc (bl_alloc (bl_alloc (bl_alloc (bl_refl w) _) _) _) _) _)
  generalize (((((w.alloc (Obj.cells #[Value.slice (some ad) n c, Value.slice b m d, Value.slice e l f] 32)).alloc (Obj.cells #[Value.slice none 0 0, Value.slice none 0 0, Value.slice none 0 0, Value.map none, Value.map none] 68)).alloc (.map #[] 0)).alloc (.map #[] 0)).alloc (Obj.cells #[Value.slice (some ad) n c, Value.slice b m d, Value.slice e l f, Value.map (some (w.heap.size + 1 + 1)), Value.map (some (w.heap.size + 1 + 1 + 1))] 68)) = w1 at *
  go_loopw [35] (fun i wr => ∃ k : Nat, k ≤ n ∧ i = .int .i64 k ∧ Hid (wr.heap[w.heap.size]? = some (Obj.cells #[Value.slice (some ad) n c, Value.slice b m d, Value.slice e l f] 32)) ∧ Hid (wr.heap[w.heap.size + 1]? = some (Obj.cells #[Value.slice none 0 0, Value.slice none 0 0, Value.slice none 0 0, Value.map none, Value.map none] 68)) ∧ Hid (wr.heap[w.heap.size + 1 + 1 + 1 + 1]? = some (Obj.cells #[Value.slice (some ad) n c, Value.slice b m d, Value.slice e l f, Value.map (some (w.heap.size + 1 + 1)), Value.map (some (w.heap.size + 1 + 1 + 1))] 68)) ∧ Hid (MapN wr (w.heap.size + 1 + 1) ((bNames bs us).take k)) ∧ Hid (MapN wr (w.heap.size + 1 + 1 + 1) ((ps.map nmOf).take 0)) ∧ Hid (Below w.heap.size w wr) ∧ Hid (Clean (bNames bs us) k)) (fun i _ => n - (intOf i).toNat)
  case atStart => exact ⟨0, Nat.zero_le _, rfl, XB, XR, XN, M1, M2, HB, hide (fun j _ h => absurd h (Nat.not_lt_zero _))⟩
  case round =>
    clear XB XR XN M1 M2 HB
    obtain ⟨k, hk, rfl, XB, XR, XN, M1, M2, HB, hc⟩ := hrel
    have k0 : wr.cell? ⟨w.heap.size, 0, none⟩ = some (Value.slice (some ad) n c) := (Lib.cell_of_heap XB.out 0).trans rfl
    have k1 : wr.cell? ⟨w.heap.size, 1, none⟩ = some (Value.slice b m d) := (Lib.cell_of_heap XB.out 1).trans rfl
    have k2 : wr.cell? ⟨w.heap.size, 2, none⟩ = some (Value.slice e l f) := (Lib.cell_of_heap XB.out 2).trans rfl
    have kn0 : wr.cell? ⟨w.heap.size + 1 + 1 + 1 + 1, 0, none⟩ = some (Value.slice (some ad) n c) := (Lib.cell_of_heap XN.out 0).trans rfl
    have kn1 : wr.cell? ⟨w.heap.size + 1 + 1 + 1 + 1, 1, none⟩ = some (Value.slice b m d) := (Lib.cell_of_heap XN.out 1).trans rfl
    have kn2 : wr.cell? ⟨w.heap.size + 1 + 1 + 1 + 1, 2, none⟩ = some (Value.slice e l f) := (Lib.cell_of_heap XN.out 2).trans rfl
    have kn3 : wr.cell? ⟨w.heap.size + 1 + 1 + 1 + 1, 3, none⟩ = some (Value.map (some (w.heap.size + 1 + 1))) := (Lib.cell_of_heap XN.out 3).trans rfl
    have kn4 : wr.cell? ⟨w.heap.size + 1 + 1 + 1 + 1, 4, none⟩ = some (Value.map (some (w.heap.size + 1 + 1 + 1))) := (Lib.cell_of_heap XN.out 4).trans rfl
    have zb := hlt XB.out
    have zr := hlt XR.out
    have zn := hlt XN.out
    by_cases hlk : k < n
    · have hlt' : (k : Int) < (n : Int) := by omega
      have hkx : k < bs.length := by omega
      have hkN : k < (bNames bs us).length := by rw [HN.out]; omega
      obtain ⟨g, o, ea, hg, t0⟩ := (HS.out.below HB.out).at hkx
      cases ea
      obtain ⟨s, hs⟩ : ∃ s, (bNames bs us)[k] = s := ⟨_, rfl⟩
      have hsb : bs[k] = s := by rw [← hs]; exact (bN_left hkx hkN).symm
      have hsz : s.size ≤ 140737488355328 := by rw [← hs]; exact hmz.out _ (List.getElem_mem _)
      have HSS := hide hs
      rw [hsb] at t0
      clear hs hsb
      go_wp2_with fail
      refine (enterI (w.heap.size + 1 + 1) _ s wr M1.out hsz (clean_nodup hc.out) (by simp; omega)).mono ?_
      rintro e2 w2 hpost
      rcases hpost with ⟨rfl, hno, hb2⟩ | ⟨rfl, hyes, hm2, hg2⟩
      · have HNO : Hid (¬ BookP bs ps us) := hide (fun h => hno (by rw [← HSS.out]; exact (clean_next hc.out hkN).2 (fun i hi hik => h.2.2.2.2.2.1 i hi hi)))
        clear hno t0 k0 k1 k2 kn0 kn1 kn2 kn3 kn4 M1 M2
        replace HB := hide (bl_trans HB.out hb2)
        replace XR := hide (hbel XR.out hb2 zr)
        have z2 := hlt XR.out
        clear hb2
        have kr0 : w2.cell? ⟨w.heap.size + 1, 0, none⟩ = some (Value.slice none 0 0) := (Lib.cell_of_heap XR.out 0).trans rfl
        have fr0 : w2.frozen? ⟨w.heap.size + 1, 0, none⟩ = false := Lib.frozen_of_heap XR.out 0
        have kr1 : w2.cell? ⟨w.heap.size + 1, 1, none⟩ = some (Value.slice none 0 0) := (Lib.cell_of_heap XR.out 1).trans rfl
        have fr1 : w2.frozen? ⟨w.heap.size + 1, 1, none⟩ = false := Lib.frozen_of_heap XR.out 1
        have kr2 : w2.cell? ⟨w.heap.size + 1, 2, none⟩ = some (Value.slice none 0 0) := (Lib.cell_of_heap XR.out 2).trans rfl
        have fr2 : w2.frozen? ⟨w.heap.size + 1, 2, none⟩ = false := Lib.frozen_of_heap XR.out 2
        have kr3 : w2.cell? ⟨w.heap.size + 1, 3, none⟩ = some (Value.map none) := (Lib.cell_of_heap XR.out 3).trans rfl
        have fr3 : w2.frozen? ⟨w.heap.size + 1, 3, none⟩ = false := Lib.frozen_of_heap XR.out 3
        have kr4 : w2.cell? ⟨w.heap.size + 1, 4, none⟩ = some (Value.map none) := (Lib.cell_of_heap XR.out 4).trans rfl
        have fr4 : w2.frozen? ⟨w.heap.size + 1, 4, none⟩ = false := Lib.frozen_of_heap XR.out 4
        go_wp2
        refine bodyPost_ret (v := .tuple #[Value.agg #[Value.slice none 0 0, Value.slice none 0 0, Value.slice none 0 0, Value.map none, Value.map none], .bool false]) (by simp [results, Tryz.results30, go_sem, kr0, kr1, kr2, kr3, kr4]) rfl ?_
        exact .inl ⟨rfl, fun h => HNO.out h, St.below HB.out (st_cells (w.heap.size + 1) [Value.slice none 0 0, Value.slice none 0 0, Value.slice none 0 0, Value.map none, Value.map none] 0 _ _ (St.refl _ _)) (by omega)⟩
      · have HC : Hid (Clean (bNames bs us) (k + 1)) := hide ((clean_next hc.out hkN).1 (by rw [HSS.out]; exact hyes))
        replace M1 : Hid (MapN w2 (w.heap.size + 1 + 1) ((bNames bs us).take (k + 1))) := hide (by rw [List.take_succ_eq_append_getElem hkN, HSS.out]; exact hm2)
        replace M2 := hide (M2.out.grown hg2 (by intro e; have h : w.heap.size + 1 + 1 + 1 = w.heap.size + 1 + 1 := Option.some.inj e; omega))
        replace XB := hide (hgro XB.out hg2 (by intro e; have h : w.heap.size = w.heap.size + 1 + 1 := Option.some.inj e; omega))
        replace XR := hide (hgro XR.out hg2 (by intro e; have h : w.heap.size + 1 = w.heap.size + 1 + 1 := Option.some.inj e; omega))
        replace XN := hide (hgro XN.out hg2 (by intro e; have h : w.heap.size + 1 + 1 + 1 + 1 = w.heap.size + 1 + 1 := Option.some.inj e; omega))
        replace HB := hide (HB.out.grown hg2 HB.out.size (fun k e => by have h : w.heap.size + 1 + 1 = k := Option.some.inj e; omega))
        clear hg2 hm2 hyes t0 k0 k1 k2 kn0 kn1 kn2 kn3 kn4
        go_wp2
        exact ⟨⟨k + 1, by omega, by go_num, XB, XR, XN, M1, M2, HB, HC⟩, by simp [intOf]; omega⟩
    · obtain rfl : k = n := by omega
      go_wp2
      clear k0 k1 k2 kn0 kn1 kn2 kn3 kn4
      go_loopw [49] (fun i wr => ∃ j : Nat, j ≤ l ∧ i = .int .i64 j ∧ Hid (wr.heap[w.heap.size]? = some (Obj.cells #[Value.slice (some ad) k c, Value.slice b m d, Value.slice e l f] 32)) ∧ Hid (wr.heap[w.heap.size + 1]? = some (Obj.cells #[Value.slice none 0 0, Value.slice none 0 0, Value.slice none 0 0, Value.map none, Value.map none] 68)) ∧ Hid (wr.heap[w.heap.size + 1 + 1 + 1 + 1]? = some (Obj.cells #[Value.slice (some ad) k c, Value.slice b m d, Value.slice e l f, Value.map (some (w.heap.size + 1 + 1)), Value.map (some (w.heap.size + 1 + 1 + 1))] 68)) ∧ Hid (MapN wr (w.heap.size + 1 + 1) ((bNames bs us).take (k + j))) ∧ Hid (MapN wr (w.heap.size + 1 + 1 + 1) ((ps.map nmOf).take 0)) ∧ Hid (Below w.heap.size w wr) ∧ Hid (Clean (bNames bs us) (k + j)) ∧ Hid (AllUn us bs.length j)) (fun i _ => l - (intOf i).toNat)
      case atStart => exact ⟨0, Nat.zero_le _, rfl, XB, XR, XN, M1, M2, HB, hc, hide (fun j _ h => absurd h (Nat.not_lt_zero _))⟩
      case round =>
        rename_i wo
        clear XB XR XN M1 M2 HB hc zb zr zn
        obtain ⟨j, hj, rfl, XB, XR, XN, M1, M2, HB, hc, hf⟩ := hrel
        have k0 : wr.cell? ⟨w.heap.size, 0, none⟩ = some (Value.slice (some ad) k c) := (Lib.cell_of_heap XB.out 0).trans rfl
        have k1 : wr.cell? ⟨w.heap.size, 1, none⟩ = some (Value.slice b m d) := (Lib.cell_of_heap XB.out 1).trans rfl
        have k2 : wr.cell? ⟨w.heap.size, 2, none⟩ = some (Value.slice e l f) := (Lib.cell_of_heap XB.out 2).trans rfl
        have kn0 : wr.cell? ⟨w.heap.size + 1 + 1 + 1 + 1, 0, none⟩ = some (Value.slice (some ad) k c) := (Lib.cell_of_heap XN.out 0).trans rfl
        have kn1 : wr.cell? ⟨w.heap.size + 1 + 1 + 1 + 1, 1, none⟩ = some (Value.slice b m d) := (Lib.cell_of_heap XN.out 1).trans rfl
        have kn2 : wr.cell? ⟨w.heap.size + 1 + 1 + 1 + 1, 2, none⟩ = some (Value.slice e l f) := (Lib.cell_of_heap XN.out 2).trans rfl
        have kn3 : wr.cell? ⟨w.heap.size + 1 + 1 + 1 + 1, 3, none⟩ = some (Value.map (some (w.heap.size + 1 + 1))) := (Lib.cell_of_heap XN.out 3).trans rfl
        have kn4 : wr.cell? ⟨w.heap.size + 1 + 1 + 1 + 1, 4, none⟩ = some (Value.map (some (w.heap.size + 1 + 1 + 1))) := (Lib.cell_of_heap XN.out 4).trans rfl
        have zb := hlt XB.out
        have zr := hlt XR.out
        have zn := hlt XN.out
        by_cases hlj : j < l
        · have hlt' : (j : Int) < (l : Int) := by omega
          have hkx : j < us.length := by omega
          have hkN : k + j < (bNames bs us).length := by rw [HN.out]; omega
          obtain ⟨g, o, rfl, hgw, hrec⟩ := HU.out.at hkx
          obtain ⟨r, hr⟩ : ∃ r, us[j] = r := ⟨_, rfl⟩
          have HR := hide hr
          rw [hr] at hrec
          obtain ⟨nm1, n1, xs, m1, ys, den, qs, er⟩ := hsu r (by rw [← hr]; exact List.getElem_mem _)
          clear hr
          rw [er] at hrec
          have ER := hide er
          clear er
          obtain ⟨a1, c1, a2, c2, a3, c3, t0, t1, t2, t3, t4, t5, t6, sg1, sg2, sg3, _⟩ := openUn hrec
          replace t0 := (HB.out.cell (p := ⟨g, o + j * 7, none⟩) hgw).trans t0
          replace t1 := (HB.out.cell (p := ⟨g, o + j * 7 + 1, none⟩) hgw).trans t1
          replace t2 := (HB.out.cell (p := ⟨g, o + j * 7 + 2, none⟩) hgw).trans t2
          replace t3 := (HB.out.cell (p := ⟨g, o + j * 7 + 3, none⟩) hgw).trans t3
          replace t4 := (HB.out.cell (p := ⟨g, o + j * 7 + 4, none⟩) hgw).trans t4
          replace t5 := (HB.out.cell (p := ⟨g, o + j * 7 + 5, none⟩) hgw).trans t5
          replace t6 := (HB.out.cell (p := ⟨g, o + j * 7 + 6, none⟩) hgw).trans t6
          have hg : g < wr.heap.size := Nat.lt_of_lt_of_le hgw HB.out.size
          have q3 := V.Seg.le sg3
          have hvb : Hid (varB us[j] bs.length = (aboveB n1 xs m1 ys && vokB7 den qs bs.length)) := hide (by rw [HR.out, ER.out]; rfl)
          have hsn : (bNames bs us)[k + j] = nm1 := by rw [bN_right hnl hkx hkN, HR.out, ER.out]; rfl
          have hsz : nm1.size ≤ 140737488355328 := by rw [← hsn]; exact hmz.out _ (List.getElem_mem _)
          have HSS := hide hsn
          have H1 := hide sg1
          have H2 := hide sg2
          have H3 := hide sg3
          clear hrec sg1 sg2 sg3 hsn
          go_wp2_with fail
          have kx : Hid ((wr.alloc (Obj.cells #[Value.string nm1, Value.bool n1, Value.slice a1 xs.length c1, Value.bool m1, Value.slice a2 ys.length c2, Value.int .i64 den, Value.slice a3 qs.length c3] 59)).heap[wr.heap.size]? = some (Obj.cells #[Value.string nm1, Value.bool n1, Value.slice a1 xs.length c1, Value.bool m1, Value.slice a2 ys.length c2, Value.int .i64 den, Value.slice a3 qs.length c3] 59)) := hide (hnew _ _)
          have hbx := hide ((bl_refl wr).alloc (Nat.le_refl _) (Obj.cells #[Value.string nm1, Value.bool n1, Value.slice a1 xs.length c1, Value.bool m1, Value.slice a2 ys.length c2, Value.int .i64 den, Value.slice a3 qs.length c3] 59))
          have hyx : wr.heap.size + 1 ≤ (wr.alloc (Obj.cells #[Value.string nm1, Value.bool n1, Value.slice a1 xs.length c1, Value.bool m1, Value.slice a2 ys.length c2, Value.int .i64 den, Value.slice a3 qs.length c3] 59)).heap.size := by simp only [World.size_alloc]; omega
          generalize wr.alloc (Obj.cells #[Value.string nm1, Value.bool n1, Value.slice a1 xs.length c1, Value.bool m1, Value.slice a2 ys.length c2, Value.int .i64 den, Value.slice a3 qs.length c3] 59) = w1 at *
          replace XB := hide (hbel XB.out hbx.out (by omega))
          replace XR := hide (hbel XR.out hbx.out (by omega))
          replace XN := hide (hbel XN.out hbx.out (by omega))
          replace M1 := hide (M1.out.below hbx.out)
          replace M2 := hide (M2.out.below hbx.out)
          replace HB := hide (bl_trans HB.out hbx.out)
          clear t0 t1 t2 t3 t4 t5 t6 k0 k1 k2 kn0 kn1 kn2 kn3 kn4 hbx
          refine (enterI (w.heap.size + 1 + 1) _ nm1 w1 M1.out hsz (clean_nodup hc.out) (by simp; omega)).mono ?_
          rintro e2 w2 hpost
          rcases hpost with ⟨rfl, hno, hb2⟩ | ⟨rfl, hyes, hm2, hg2⟩
          · have HNO : Hid (¬ BookP bs ps us) := hide (fun h => hno (by rw [← HSS.out]; exact (clean_next hc.out hkN).2 (fun i hi hik => h.2.2.2.2.2.1 i hi hi)))
            clear hno M1 M2
            replace HB := hide (bl_trans HB.out hb2)
            replace XR := hide (hbel XR.out hb2 (by omega))
            have z2 := hlt XR.out
            clear hb2
            have kr0 : w2.cell? ⟨w.heap.size + 1, 0, none⟩ = some (Value.slice none 0 0) := (Lib.cell_of_heap XR.out 0).trans rfl
            have fr0 : w2.frozen? ⟨w.heap.size + 1, 0, none⟩ = false := Lib.frozen_of_heap XR.out 0
            have kr1 : w2.cell? ⟨w.heap.size + 1, 1, none⟩ = some (Value.slice none 0 0) := (Lib.cell_of_heap XR.out 1).trans rfl
            have fr1 : w2.frozen? ⟨w.heap.size + 1, 1, none⟩ = false := Lib.frozen_of_heap XR.out 1
            have kr2 : w2.cell? ⟨w.heap.size + 1, 2, none⟩ = some (Value.slice none 0 0) := (Lib.cell_of_heap XR.out 2).trans rfl
            have fr2 : w2.frozen? ⟨w.heap.size + 1, 2, none⟩ = false := Lib.frozen_of_heap XR.out 2
            have kr3 : w2.cell? ⟨w.heap.size + 1, 3, none⟩ = some (Value.map none) := (Lib.cell_of_heap XR.out 3).trans rfl
            have fr3 : w2.frozen? ⟨w.heap.size + 1, 3, none⟩ = false := Lib.frozen_of_heap XR.out 3
            have kr4 : w2.cell? ⟨w.heap.size + 1, 4, none⟩ = some (Value.map none) := (Lib.cell_of_heap XR.out 4).trans rfl
            have fr4 : w2.frozen? ⟨w.heap.size + 1, 4, none⟩ = false := Lib.frozen_of_heap XR.out 4
            go_wp2
            refine bodyPost_ret (v := .tuple #[Value.agg #[Value.slice none 0 0, Value.slice none 0 0, Value.slice none 0 0, Value.map none, Value.map none], .bool false]) (by simp [results, Tryz.results30, go_sem, kr0, kr1, kr2, kr3, kr4]) rfl ?_
            exact .inl ⟨rfl, fun h => HNO.out h, St.below HB.out (st_cells (w.heap.size + 1) [Value.slice none 0 0, Value.slice none 0 0, Value.slice none 0 0, Value.map none, Value.map none] 0 _ _ (St.refl _ _)) (by omega)⟩
          · have HC : Hid (Clean (bNames bs us) (k + (j + 1))) := hide ((clean_next hc.out hkN).1 (by rw [HSS.out]; exact hyes))
            replace M1 : Hid (MapN w2 (w.heap.size + 1 + 1) ((bNames bs us).take (k + (j + 1)))) := hide (by rw [show k + (j + 1) = (k + j) + 1 by omega, List.take_succ_eq_append_getElem hkN, HSS.out]; exact hm2)
            replace M2 := hide (M2.out.grown hg2 (by intro e; have h : w.heap.size + 1 + 1 + 1 = w.heap.size + 1 + 1 := Option.some.inj e; omega))
            replace XB := hide (hgro XB.out hg2 (by intro e; have h : w.heap.size = w.heap.size + 1 + 1 := Option.some.inj e; omega))
            replace XR := hide (hgro XR.out hg2 (by intro e; have h : w.heap.size + 1 = w.heap.size + 1 + 1 := Option.some.inj e; omega))
            replace XN := hide (hgro XN.out hg2 (by intro e; have h : w.heap.size + 1 + 1 + 1 + 1 = w.heap.size + 1 + 1 := Option.some.inj e; omega))
            replace HB := hide (HB.out.grown hg2 HB.out.size (fun k e => by have h : w.heap.size + 1 + 1 = k := Option.some.inj e; omega))
            replace kx := hide (hgro kx.out hg2 (by intro e; have h : wr.heap.size = w.heap.size + 1 + 1 := Option.some.inj e; omega))
            have HG2 := hide hg2
            have hz2 := hg2.size
            clear hg2 hm2 hyes
            have u0 : w2.cell? ⟨wr.heap.size, 0, none⟩ = some (Value.string nm1) := (Lib.cell_of_heap kx.out 0).trans rfl
            have u1 : w2.cell? ⟨wr.heap.size, 1, none⟩ = some (Value.bool n1) := (Lib.cell_of_heap kx.out 1).trans rfl
            have u2 : w2.cell? ⟨wr.heap.size, 2, none⟩ = some (Value.slice a1 xs.length c1) := (Lib.cell_of_heap kx.out 2).trans rfl
            have u3 : w2.cell? ⟨wr.heap.size, 3, none⟩ = some (Value.bool m1) := (Lib.cell_of_heap kx.out 3).trans rfl
            have u4 : w2.cell? ⟨wr.heap.size, 4, none⟩ = some (Value.slice a2 ys.length c2) := (Lib.cell_of_heap kx.out 4).trans rfl
            have u5 : w2.cell? ⟨wr.heap.size, 5, none⟩ = some (Value.int .i64 den) := (Lib.cell_of_heap kx.out 5).trans rfl
            have u6 : w2.cell? ⟨wr.heap.size, 6, none⟩ = some (Value.slice a3 qs.length c3) := (Lib.cell_of_heap kx.out 6).trans rfl
            go_wp2_with fail
            refine (aboveI n1 xs m1 ys a1 c1 a2 c2 w2 (H1.out.below HB.out) (H2.out.below HB.out)).mono ?_
            rintro e3 w3 ⟨rfl, hb3⟩
            have hyy := hb3.size
            replace XB := hide (hbel XB.out hb3 (by omega))
            replace XR := hide (hbel XR.out hb3 (by omega))
            replace XN := hide (hbel XN.out hb3 (by omega))
            replace M1 := hide (M1.out.below hb3)
            replace M2 := hide (M2.out.below hb3)
            replace HB := hide (bl_trans HB.out hb3)
            replace kx := hide (hbel kx.out hb3 (by omega))
            clear hb3 u0 u1 u2 u3 u4 u5 u6
            cases ha : aboveB n1 xs m1 ys with
            | false =>
              have HA : Hid (¬ BookP bs ps us) := hide (fun h => by have := h.2.2.2.2.1 j hkx hkx; rw [hvb.out, ha] at this; cases this)
              clear ha
              have kr0 : w3.cell? ⟨w.heap.size + 1, 0, none⟩ = some (Value.slice none 0 0) := (Lib.cell_of_heap XR.out 0).trans rfl
              have fr0 : w3.frozen? ⟨w.heap.size + 1, 0, none⟩ = false := Lib.frozen_of_heap XR.out 0
              have kr1 : w3.cell? ⟨w.heap.size + 1, 1, none⟩ = some (Value.slice none 0 0) := (Lib.cell_of_heap XR.out 1).trans rfl
              have fr1 : w3.frozen? ⟨w.heap.size + 1, 1, none⟩ = false := Lib.frozen_of_heap XR.out 1
              have kr2 : w3.cell? ⟨w.heap.size + 1, 2, none⟩ = some (Value.slice none 0 0) := (Lib.cell_of_heap XR.out 2).trans rfl
              have fr2 : w3.frozen? ⟨w.heap.size + 1, 2, none⟩ = false := Lib.frozen_of_heap XR.out 2
              have kr3 : w3.cell? ⟨w.heap.size + 1, 3, none⟩ = some (Value.map none) := (Lib.cell_of_heap XR.out 3).trans rfl
              have fr3 : w3.frozen? ⟨w.heap.size + 1, 3, none⟩ = false := Lib.frozen_of_heap XR.out 3
              have kr4 : w3.cell? ⟨w.heap.size + 1, 4, none⟩ = some (Value.map none) := (Lib.cell_of_heap XR.out 4).trans rfl
              have fr4 : w3.frozen? ⟨w.heap.size + 1, 4, none⟩ = false := Lib.frozen_of_heap XR.out 4
              go_wp2
              refine bodyPost_ret (v := .tuple #[Value.agg #[Value.slice none 0 0, Value.slice none 0 0, Value.slice none 0 0, Value.map none, Value.map none], .bool false]) (by simp [results, Tryz.results30, go_sem, kr0, kr1, kr2, kr3, kr4]) rfl ?_
              exact .inl ⟨rfl, fun h => HA.out h, St.below HB.out (st_cells (w.heap.size + 1) [Value.slice none 0 0, Value.slice none 0 0, Value.slice none 0 0, Value.map none, Value.map none] 0 _ _ (St.refl _ _)) (by omega)⟩
            | true =>
              have HA : Hid (varB us[j] bs.length = vokB7 den qs bs.length) := hide (by rw [hvb.out, ha]; rfl)
              clear ha
              have u0 : w3.cell? ⟨wr.heap.size, 0, none⟩ = some (Value.string nm1) := (Lib.cell_of_heap kx.out 0).trans rfl
              have u1 : w3.cell? ⟨wr.heap.size, 1, none⟩ = some (Value.bool n1) := (Lib.cell_of_heap kx.out 1).trans rfl
              have u2 : w3.cell? ⟨wr.heap.size, 2, none⟩ = some (Value.slice a1 xs.length c1) := (Lib.cell_of_heap kx.out 2).trans rfl
              have u3 : w3.cell? ⟨wr.heap.size, 3, none⟩ = some (Value.bool m1) := (Lib.cell_of_heap kx.out 3).trans rfl
              have u4 : w3.cell? ⟨wr.heap.size, 4, none⟩ = some (Value.slice a2 ys.length c2) := (Lib.cell_of_heap kx.out 4).trans rfl
              have u5 : w3.cell? ⟨wr.heap.size, 5, none⟩ = some (Value.int .i64 den) := (Lib.cell_of_heap kx.out 5).trans rfl
              have u6 : w3.cell? ⟨wr.heap.size, 6, none⟩ = some (Value.slice a3 qs.length c3) := (Lib.cell_of_heap kx.out 6).trans rfl
              go_wp2_with fail
              refine (V.vecOkI den a3 c3 qs w3 (H3.out.below HB.out)).mono ?_
              rintro e4 w4 ⟨rfl, hb4⟩
              have hyz := hb4.size
              replace XB := hide (hbel XB.out hb4 (by omega))
              replace XR := hide (hbel XR.out hb4 (by omega))
              replace XN := hide (hbel XN.out hb4 (by omega))
              replace M1 := hide (M1.out.below hb4)
              replace M2 := hide (M2.out.below hb4)
              replace HB := hide (bl_trans HB.out hb4)
              replace kx := hide (hbel kx.out hb4 (by omega))
              clear hb4 u0 u1 u2 u3 u4 u5 u6
              cases hv : V.vokB den qs with
              | false =>
                have HV : Hid (¬ BookP bs ps us) := hide (fun h => by have := h.2.2.2.2.1 j hkx hkx; rw [HA.out] at this; unfold vokB7 at this; rw [hv] at this; cases this)
                clear hv
                have kr0 : w4.cell? ⟨w.heap.size + 1, 0, none⟩ = some (Value.slice none 0 0) := (Lib.cell_of_heap XR.out 0).trans rfl
                have fr0 : w4.frozen? ⟨w.heap.size + 1, 0, none⟩ = false := Lib.frozen_of_heap XR.out 0
                have kr1 : w4.cell? ⟨w.heap.size + 1, 1, none⟩ = some (Value.slice none 0 0) := (Lib.cell_of_heap XR.out 1).trans rfl
                have fr1 : w4.frozen? ⟨w.heap.size + 1, 1, none⟩ = false := Lib.frozen_of_heap XR.out 1
                have kr2 : w4.cell? ⟨w.heap.size + 1, 2, none⟩ = some (Value.slice none 0 0) := (Lib.cell_of_heap XR.out 2).trans rfl
                have fr2 : w4.frozen? ⟨w.heap.size + 1, 2, none⟩ = false := Lib.frozen_of_heap XR.out 2
                have kr3 : w4.cell? ⟨w.heap.size + 1, 3, none⟩ = some (Value.map none) := (Lib.cell_of_heap XR.out 3).trans rfl
                have fr3 : w4.frozen? ⟨w.heap.size + 1, 3, none⟩ = false := Lib.frozen_of_heap XR.out 3
                have kr4 : w4.cell? ⟨w.heap.size + 1, 4, none⟩ = some (Value.map none) := (Lib.cell_of_heap XR.out 4).trans rfl
                have fr4 : w4.frozen? ⟨w.heap.size + 1, 4, none⟩ = false := Lib.frozen_of_heap XR.out 4
                go_wp2
                refine bodyPost_ret (v := .tuple #[Value.agg #[Value.slice none 0 0, Value.slice none 0 0, Value.slice none 0 0, Value.map none, Value.map none], .bool false]) (by simp [results, Tryz.results30, go_sem, kr0, kr1, kr2, kr3, kr4]) rfl ?_
                exact .inl ⟨rfl, fun h => HV.out h, St.below HB.out (st_cells (w.heap.size + 1) [Value.slice none 0 0, Value.slice none 0 0, Value.slice none 0 0, Value.map none, Value.map none] 0 _ _ (St.refl _ _)) (by omega)⟩
              | true =>
                have k0 : w4.cell? ⟨w.heap.size, 0, none⟩ = some (Value.slice (some ad) k c) := (Lib.cell_of_heap XB.out 0).trans rfl
                have u0 : w4.cell? ⟨wr.heap.size, 0, none⟩ = some (Value.string nm1) := (Lib.cell_of_heap kx.out 0).trans rfl
                have u1 : w4.cell? ⟨wr.heap.size, 1, none⟩ = some (Value.bool n1) := (Lib.cell_of_heap kx.out 1).trans rfl
                have u2 : w4.cell? ⟨wr.heap.size, 2, none⟩ = some (Value.slice a1 xs.length c1) := (Lib.cell_of_heap kx.out 2).trans rfl
                have u3 : w4.cell? ⟨wr.heap.size, 3, none⟩ = some (Value.bool m1) := (Lib.cell_of_heap kx.out 3).trans rfl
                have u4 : w4.cell? ⟨wr.heap.size, 4, none⟩ = some (Value.slice a2 ys.length c2) := (Lib.cell_of_heap kx.out 4).trans rfl
                have u5 : w4.cell? ⟨wr.heap.size, 5, none⟩ = some (Value.int .i64 den) := (Lib.cell_of_heap kx.out 5).trans rfl
                have u6 : w4.cell? ⟨wr.heap.size, 6, none⟩ = some (Value.slice a3 qs.length c3) := (Lib.cell_of_heap kx.out 6).trans rfl
                by_cases hq : (qs.length : Int) = (k : Int)
                · have HV : Hid (AllUn us bs.length (j + 1)) := hide (fun i hi hik => by
                    by_cases e : i = j
                    · subst e; rw [HA.out]; unfold vokB7; rw [hv, decide_eq_true (by omega)]; rfl
                    · exact hf.out i hi (by omega))
                  have hl2 : ((qs.length : Int) != (k : Int)) = false := by rw [bne_eq_false_iff_eq]; exact hq
                  clear hv hq
                  go_wp2
                  exact ⟨⟨j + 1, by omega, by go_num, XB, XR, XN, M1, M2, HB, HC, HV⟩, by simp [intOf]; omega⟩
                · have HV : Hid (¬ BookP bs ps us) := hide (fun h => by have := h.2.2.2.2.1 j hkx hkx; rw [HA.out] at this; unfold vokB7 at this; rw [hv, decide_eq_false (by omega)] at this; cases this)
                  have hl2 : ((qs.length : Int) != (k : Int)) = true := by simp only [bne_iff_ne]; exact hq
                  clear hv hq
                  have kr0 : w4.cell? ⟨w.heap.size + 1, 0, none⟩ = some (Value.slice none 0 0) := (Lib.cell_of_heap XR.out 0).trans rfl
                  have fr0 : w4.frozen? ⟨w.heap.size + 1, 0, none⟩ = false := Lib.frozen_of_heap XR.out 0
                  have kr1 : w4.cell? ⟨w.heap.size + 1, 1, none⟩ = some (Value.slice none 0 0) := (Lib.cell_of_heap XR.out 1).trans rfl
                  have fr1 : w4.frozen? ⟨w.heap.size + 1, 1, none⟩ = false := Lib.frozen_of_heap XR.out 1
                  have kr2 : w4.cell? ⟨w.heap.size + 1, 2, none⟩ = some (Value.slice none 0 0) := (Lib.cell_of_heap XR.out 2).trans rfl
                  have fr2 : w4.frozen? ⟨w.heap.size + 1, 2, none⟩ = false := Lib.frozen_of_heap XR.out 2
                  have kr3 : w4.cell? ⟨w.heap.size + 1, 3, none⟩ = some (Value.map none) := (Lib.cell_of_heap XR.out 3).trans rfl
                  have fr3 : w4.frozen? ⟨w.heap.size + 1, 3, none⟩ = false := Lib.frozen_of_heap XR.out 3
                  have kr4 : w4.cell? ⟨w.heap.size + 1, 4, none⟩ = some (Value.map none) := (Lib.cell_of_heap XR.out 4).trans rfl
                  have fr4 : w4.frozen? ⟨w.heap.size + 1, 4, none⟩ = false := Lib.frozen_of_heap XR.out 4
                  go_wp2
                  refine bodyPost_ret (v := .tuple #[Value.agg #[Value.slice none 0 0, Value.slice none 0 0, Value.slice none 0 0, Value.map none, Value.map none], .bool false]) (by simp [results, Tryz.results30, go_sem, kr0, kr1, kr2, kr3, kr4]) rfl ?_
                  exact .inl ⟨rfl, fun h => HV.out h, St.below HB.out (st_cells (w.heap.size + 1) [Value.slice none 0 0, Value.slice none 0 0, Value.slice none 0 0, Value.map none, Value.map none] 0 _ _ (St.refl _ _)) (by omega)⟩
        · obtain rfl : j = l := by omega
          have hcc : Hid (Clean (bNames bs us) (bNames bs us).length) := hide (by rw [HN.out]; exact hc.out)
          have huu : Hid (AllUn us bs.length us.length) := hide (by rw [hll]; exact hf.out)
          have M1' : Hid (MapN wr (w.heap.size + 1 + 1) (bNames bs us)) := hide (by have h := M1.out; rwa [List.take_of_length_le (by rw [HN.out]; omega)] at h)
          clear M1 hc hf
          have M1 := M1'
          clear M1'
          go_wp2
          clear k0 k1 k2 kn0 kn1 kn2 kn3 kn4
          go_loopw [86] (fun i wr => ∃ q : Nat, q ≤ m ∧ i = .int .i64 q ∧ Hid (wr.heap[w.heap.size]? = some (Obj.cells #[Value.slice (some ad) k c, Value.slice b m d, Value.slice e j f] 32)) ∧ Hid (wr.heap[w.heap.size + 1]? = some (Obj.cells #[Value.slice none 0 0, Value.slice none 0 0, Value.slice none 0 0, Value.map none, Value.map none] 68)) ∧ Hid (wr.heap[w.heap.size + 1 + 1 + 1 + 1]? = some (Obj.cells #[Value.slice (some ad) k c, Value.slice b m d, Value.slice e j f, Value.map (some (w.heap.size + 1 + 1)), Value.map (some (w.heap.size + 1 + 1 + 1))] 68)) ∧ Hid (MapN wr (w.heap.size + 1 + 1) (bNames bs us)) ∧ Hid (MapN wr (w.heap.size + 1 + 1 + 1) ((ps.map nmOf).take q)) ∧ Hid (Below w.heap.size w wr) ∧ Hid (Clean (ps.map nmOf) q) ∧ Hid (AllPf ps q)) (fun i _ => m - (intOf i).toNat)
          case atStart => exact ⟨0, Nat.zero_le _, rfl, XB, XR, XN, M1, M2, HB, hide (fun j _ h => absurd h (Nat.not_lt_zero _)), hide (fun j _ h => absurd h (Nat.not_lt_zero _))⟩
          case round =>
            rename_i wo2
            clear XB XR XN M1 M2 HB zb zr zn
            obtain ⟨q, hq, rfl, XB, XR, XN, M1, M2, HB, hc, hf⟩ := hrel
            have k0 : wr.cell? ⟨w.heap.size, 0, none⟩ = some (Value.slice (some ad) k c) := (Lib.cell_of_heap XB.out 0).trans rfl
            have k1 : wr.cell? ⟨w.heap.size, 1, none⟩ = some (Value.slice b m d) := (Lib.cell_of_heap XB.out 1).trans rfl
            have k2 : wr.cell? ⟨w.heap.size, 2, none⟩ = some (Value.slice e j f) := (Lib.cell_of_heap XB.out 2).trans rfl
            have kn0 : wr.cell? ⟨w.heap.size + 1 + 1 + 1 + 1, 0, none⟩ = some (Value.slice (some ad) k c) := (Lib.cell_of_heap XN.out 0).trans rfl
            have kn1 : wr.cell? ⟨w.heap.size + 1 + 1 + 1 + 1, 1, none⟩ = some (Value.slice b m d) := (Lib.cell_of_heap XN.out 1).trans rfl
            have kn2 : wr.cell? ⟨w.heap.size + 1 + 1 + 1 + 1, 2, none⟩ = some (Value.slice e j f) := (Lib.cell_of_heap XN.out 2).trans rfl
            have kn3 : wr.cell? ⟨w.heap.size + 1 + 1 + 1 + 1, 3, none⟩ = some (Value.map (some (w.heap.size + 1 + 1))) := (Lib.cell_of_heap XN.out 3).trans rfl
            have kn4 : wr.cell? ⟨w.heap.size + 1 + 1 + 1 + 1, 4, none⟩ = some (Value.map (some (w.heap.size + 1 + 1 + 1))) := (Lib.cell_of_heap XN.out 4).trans rfl
            have zb := hlt XB.out
            have zr := hlt XR.out
            have zn := hlt XN.out
            by_cases hlq : q < m
            · have hlt' : (q : Int) < (m : Int) := by omega
              have hkx : q < ps.length := by omega
              have hkN : q < (ps.map nmOf).length := by simp; omega
              obtain ⟨g, o, rfl, hgw, hrec⟩ := HP.out.at hkx
              obtain ⟨r, hr⟩ : ∃ r, ps[q] = r := ⟨_, rfl⟩
              have HR := hide hr
              rw [hr] at hrec
              obtain ⟨nm1, n1, xs, m1, ys, er⟩ := hsp r (by rw [← hr]; exact List.getElem_mem _)
              clear hr
              rw [er] at hrec
              have ER := hide er
              clear er
              obtain ⟨a1, c1, a2, c2, t0, t1, t2, t3, t4, sg1, sg2, _⟩ := openPf hrec
              replace t0 := (HB.out.cell (p := ⟨g, o + q * 5, none⟩) hgw).trans t0
              replace t1 := (HB.out.cell (p := ⟨g, o + q * 5 + 1, none⟩) hgw).trans t1
              replace t2 := (HB.out.cell (p := ⟨g, o + q * 5 + 2, none⟩) hgw).trans t2
              replace t3 := (HB.out.cell (p := ⟨g, o + q * 5 + 3, none⟩) hgw).trans t3
              replace t4 := (HB.out.cell (p := ⟨g, o + q * 5 + 4, none⟩) hgw).trans t4
              have hg : g < wr.heap.size := Nat.lt_of_lt_of_le hgw HB.out.size
              have hvb : Hid (pfB ps[q] = aboveB n1 xs m1 ys) := hide (by rw [HR.out, ER.out]; rfl)
              have hsn : (ps.map nmOf)[q] = nm1 := by rw [List.getElem_map, HR.out, ER.out]; rfl
              have hsz : nm1.size ≤ 140737488355328 := by rw [← hsn]; exact hmz2.out _ (List.getElem_mem _)
              have HSS := hide hsn
              have H1 := hide sg1
              have H2 := hide sg2
              clear hrec sg1 sg2 hsn
              go_wp2_with fail
              have kx : Hid ((wr.alloc (Obj.cells #[Value.string nm1, Value.bool n1, Value.slice a1 xs.length c1, Value.bool m1, Value.slice a2 ys.length c2] 57)).heap[wr.heap.size]? = some (Obj.cells #[Value.string nm1, Value.bool n1, Value.slice a1 xs.length c1, Value.bool m1, Value.slice a2 ys.length c2] 57)) := hide (hnew _ _)
              have hbx := hide ((bl_refl wr).alloc (Nat.le_refl _) (Obj.cells #[Value.string nm1, Value.bool n1, Value.slice a1 xs.length c1, Value.bool m1, Value.slice a2 ys.length c2] 57))
              have hyx : wr.heap.size + 1 ≤ (wr.alloc (Obj.cells #[Value.string nm1, Value.bool n1, Value.slice a1 xs.length c1, Value.bool m1, Value.slice a2 ys.length c2] 57)).heap.size := by simp only [World.size_alloc]; omega
              generalize wr.alloc (Obj.cells #[Value.string nm1, Value.bool n1, Value.slice a1 xs.length c1, Value.bool m1, Value.slice a2 ys.length c2] 57) = w1 at *
              replace XB := hide (hbel XB.out hbx.out (by omega))
              replace XR := hide (hbel XR.out hbx.out (by omega))
              replace XN := hide (hbel XN.out hbx.out (by omega))
              replace M1 := hide (M1.out.below hbx.out)
              replace M2 := hide (M2.out.below hbx.out)
              replace HB := hide (bl_trans HB.out hbx.out)
              clear t0 t1 t2 t3 t4 k0 k1 k2 kn0 kn1 kn2 kn3 kn4 hbx
              refine (enterI (w.heap.size + 1 + 1 + 1) _ nm1 w1 M2.out hsz (clean_nodup hc.out) (by simp; omega)).mono ?_
              rintro e2 w2 hpost
              rcases hpost with ⟨rfl, hno, hb2⟩ | ⟨rfl, hyes, hm2, hg2⟩
              · have HNO : Hid (¬ BookP bs ps us) := hide (fun h => hno (by rw [← HSS.out]; exact (clean_next hc.out hkN).2 (fun i hi hik => h.2.2.2.2.2.2 i hi hi)))
                clear hno M1 M2
                replace HB := hide (bl_trans HB.out hb2)
                replace XR := hide (hbel XR.out hb2 (by omega))
                have z2 := hlt XR.out
                clear hb2
                have kr0 : w2.cell? ⟨w.heap.size + 1, 0, none⟩ = some (Value.slice none 0 0) := (Lib.cell_of_heap XR.out 0).trans rfl
                have fr0 : w2.frozen? ⟨w.heap.size + 1, 0, none⟩ = false := Lib.frozen_of_heap XR.out 0
                have kr1 : w2.cell? ⟨w.heap.size + 1, 1, none⟩ = some (Value.slice none 0 0) := (Lib.cell_of_heap XR.out 1).trans rfl
                have fr1 : w2.frozen? ⟨w.heap.size + 1, 1, none⟩ = false := Lib.frozen_of_heap XR.out 1
                have kr2 : w2.cell? ⟨w.heap.size + 1, 2, none⟩ = some (Value.slice none 0 0) := (Lib.cell_of_heap XR.out 2).trans rfl
                have fr2 : w2.frozen? ⟨w.heap.size + 1, 2, none⟩ = false := Lib.frozen_of_heap XR.out 2
                have kr3 : w2.cell? ⟨w.heap.size + 1, 3, none⟩ = some (Value.map none) := (Lib.cell_of_heap XR.out 3).trans rfl
                have fr3 : w2.frozen? ⟨w.heap.size + 1, 3, none⟩ = false := Lib.frozen_of_heap XR.out 3
                have kr4 : w2.cell? ⟨w.heap.size + 1, 4, none⟩ = some (Value.map none) := (Lib.cell_of_heap XR.out 4).trans rfl
                have fr4 : w2.frozen? ⟨w.heap.size + 1, 4, none⟩ = false := Lib.frozen_of_heap XR.out 4
                go_wp2
                refine bodyPost_ret (v := .tuple #[Value.agg #[Value.slice none 0 0, Value.slice none 0 0, Value.slice none 0 0, Value.map none, Value.map none], .bool false]) (by simp [results, Tryz.results30, go_sem, kr0, kr1, kr2, kr3, kr4]) rfl ?_
                exact .inl ⟨rfl, fun h => HNO.out h, St.below HB.out (st_cells (w.heap.size + 1) [Value.slice none 0 0, Value.slice none 0 0, Value.slice none 0 0, Value.map none, Value.map none] 0 _ _ (St.refl _ _)) (by omega)⟩
              · have HC : Hid (Clean (ps.map nmOf) (q + 1)) := hide ((clean_next hc.out hkN).1 (by rw [HSS.out]; exact hyes))
                replace M2 : Hid (MapN w2 (w.heap.size + 1 + 1 + 1) ((ps.map nmOf).take (q + 1))) := hide (by rw [List.take_succ_eq_append_getElem hkN, HSS.out]; exact hm2)
                replace M1 := hide (M1.out.grown hg2 (by intro e; have h : w.heap.size + 1 + 1 = w.heap.size + 1 + 1 + 1 := Option.some.inj e; omega))
                replace XB := hide (hgro XB.out hg2 (by intro e; have h : w.heap.size = w.heap.size + 1 + 1 + 1 := Option.some.inj e; omega))
                replace XR := hide (hgro XR.out hg2 (by intro e; have h : w.heap.size + 1 = w.heap.size + 1 + 1 + 1 := Option.some.inj e; omega))
                replace XN := hide (hgro XN.out hg2 (by intro e; have h : w.heap.size + 1 + 1 + 1 + 1 = w.heap.size + 1 + 1 + 1 := Option.some.inj e; omega))
                replace HB := hide (HB.out.grown hg2 HB.out.size (fun k e => by have h : w.heap.size + 1 + 1 + 1 = k := Option.some.inj e; omega))
                replace kx := hide (hgro kx.out hg2 (by intro e; have h : wr.heap.size = w.heap.size + 1 + 1 + 1 := Option.some.inj e; omega))
                have hz2 := hg2.size
                clear hg2 hm2 hyes
                have u0 : w2.cell? ⟨wr.heap.size, 0, none⟩ = some (Value.string nm1) := (Lib.cell_of_heap kx.out 0).trans rfl
                have u1 : w2.cell? ⟨wr.heap.size, 1, none⟩ = some (Value.bool n1) := (Lib.cell_of_heap kx.out 1).trans rfl
                have u2 : w2.cell? ⟨wr.heap.size, 2, none⟩ = some (Value.slice a1 xs.length c1) := (Lib.cell_of_heap kx.out 2).trans rfl
                have u3 : w2.cell? ⟨wr.heap.size, 3, none⟩ = some (Value.bool m1) := (Lib.cell_of_heap kx.out 3).trans rfl
                have u4 : w2.cell? ⟨wr.heap.size, 4, none⟩ = some (Value.slice a2 ys.length c2) := (Lib.cell_of_heap kx.out 4).trans rfl
                go_wp2_with fail
                refine (aboveI n1 xs m1 ys a1 c1 a2 c2 w2 (H1.out.below HB.out) (H2.out.below HB.out)).mono ?_
                rintro e3 w3 ⟨rfl, hb3⟩
                have hyy := hb3.size
                replace XB := hide (hbel XB.out hb3 (by omega))
                replace XR := hide (hbel XR.out hb3 (by omega))
                replace XN := hide (hbel XN.out hb3 (by omega))
                replace M1 := hide (M1.out.below hb3)
                replace M2 := hide (M2.out.below hb3)
                replace HB := hide (bl_trans HB.out hb3)
                clear hb3 u0 u1 u2 u3 u4
                cases ha : aboveB n1 xs m1 ys with
                | false =>
                  have HA : Hid (¬ BookP bs ps us) := hide (fun h => by have := h.2.2.2.1 q hkx hkx; rw [hvb.out, ha] at this; cases this)
                  clear ha
                  have kr0 : w3.cell? ⟨w.heap.size + 1, 0, none⟩ = some (Value.slice none 0 0) := (Lib.cell_of_heap XR.out 0).trans rfl
                  have fr0 : w3.frozen? ⟨w.heap.size + 1, 0, none⟩ = false := Lib.frozen_of_heap XR.out 0
                  have kr1 : w3.cell? ⟨w.heap.size + 1, 1, none⟩ = some (Value.slice none 0 0) := (Lib.cell_of_heap XR.out 1).trans rfl
                  have fr1 : w3.frozen? ⟨w.heap.size + 1, 1, none⟩ = false := Lib.frozen_of_heap XR.out 1
                  have kr2 : w3.cell? ⟨w.heap.size + 1, 2, none⟩ = some (Value.slice none 0 0) := (Lib.cell_of_heap XR.out 2).trans rfl
                  have fr2 : w3.frozen? ⟨w.heap.size + 1, 2, none⟩ = false := Lib.frozen_of_heap XR.out 2
                  have kr3 : w3.cell? ⟨w.heap.size + 1, 3, none⟩ = some (Value.map none) := (Lib.cell_of_heap XR.out 3).trans rfl
                  have fr3 : w3.frozen? ⟨w.heap.size + 1, 3, none⟩ = false := Lib.frozen_of_heap XR.out 3
                  have kr4 : w3.cell? ⟨w.heap.size + 1, 4, none⟩ = some (Value.map none) := (Lib.cell_of_heap XR.out 4).trans rfl
                  have fr4 : w3.frozen? ⟨w.heap.size + 1, 4, none⟩ = false := Lib.frozen_of_heap XR.out 4
                  go_wp2
                  refine bodyPost_ret (v := .tuple #[Value.agg #[Value.slice none 0 0, Value.slice none 0 0, Value.slice none 0 0, Value.map none, Value.map none], .bool false]) (by simp [results, Tryz.results30, go_sem, kr0, kr1, kr2, kr3, kr4]) rfl ?_
                  exact .inl ⟨rfl, fun h => HA.out h, St.below HB.out (st_cells (w.heap.size + 1) [Value.slice none 0 0, Value.slice none 0 0, Value.slice none 0 0, Value.map none, Value.map none] 0 _ _ (St.refl _ _)) (by omega)⟩
                | true =>
                  have HA : Hid (AllPf ps (q + 1)) := hide (fun i hi hik => by
                    by_cases e : i = q
                    · subst e; rw [hvb.out, ha]
                    · exact hf.out i hi (by omega))
                  clear ha
                  go_wp2
                  exact ⟨⟨q + 1, by omega, by go_num, XB, XR, XN, M1, M2, HB, HC, HA⟩, by simp [intOf]; omega⟩
            · obtain rfl : q = m := by omega
              have HBP : Hid (BookP bs ps us) := hide ⟨by omega, by omega, by omega, by rw [hml]; exact hf.out, huu.out, hcc.out, by rw [show (ps.map nmOf).length = q by simp; omega]; exact hc.out⟩
              have M2' : Hid (MapN wr (w.heap.size + 1 + 1 + 1) (ps.map nmOf)) := hide (by have h := M2.out; rwa [List.take_of_length_le (by simp; omega)] at h)
              clear M2 hc hf huu hcc
              have kr0 : wr.cell? ⟨w.heap.size + 1, 0, none⟩ = some (Value.slice none 0 0) := (Lib.cell_of_heap XR.out 0).trans rfl
              have fr0 : wr.frozen? ⟨w.heap.size + 1, 0, none⟩ = false := Lib.frozen_of_heap XR.out 0
              have kr1 : wr.cell? ⟨w.heap.size + 1, 1, none⟩ = some (Value.slice none 0 0) := (Lib.cell_of_heap XR.out 1).trans rfl
              have fr1 : wr.frozen? ⟨w.heap.size + 1, 1, none⟩ = false := Lib.frozen_of_heap XR.out 1
              have kr2 : wr.cell? ⟨w.heap.size + 1, 2, none⟩ = some (Value.slice none 0 0) := (Lib.cell_of_heap XR.out 2).trans rfl
              have fr2 : wr.frozen? ⟨w.heap.size + 1, 2, none⟩ = false := Lib.frozen_of_heap XR.out 2
              have kr3 : wr.cell? ⟨w.heap.size + 1, 3, none⟩ = some (Value.map none) := (Lib.cell_of_heap XR.out 3).trans rfl
              have fr3 : wr.frozen? ⟨w.heap.size + 1, 3, none⟩ = false := Lib.frozen_of_heap XR.out 3
              have kr4 : wr.cell? ⟨w.heap.size + 1, 4, none⟩ = some (Value.map none) := (Lib.cell_of_heap XR.out 4).trans rfl
              have fr4 : wr.frozen? ⟨w.heap.size + 1, 4, none⟩ = false := Lib.frozen_of_heap XR.out 4
              go_wp2
              obtain ⟨w6, e6⟩ : ∃ x, x = (((((wr.setCell ⟨w.heap.size + 1, 0, none⟩ (Value.slice (some ad) k c)).setCell ⟨w.heap.size + 1, 1, none⟩ (Value.slice b q d)).setCell ⟨w.heap.size + 1, 2, none⟩ (Value.slice e j f)).setCell ⟨w.heap.size + 1, 3, none⟩ (Value.map (some (w.heap.size + 1 + 1)))).setCell ⟨w.heap.size + 1, 4, none⟩ (Value.map (some (w.heap.size + 1 + 1 + 1)))) := ⟨_, rfl⟩
              have hst : St (w.heap.size + 1) wr w6 := by rw [e6]; exact ((((((St.refl (w.heap.size + 1) wr).set 0 (Value.slice (some ad) k c)).set 1 (Value.slice b q d)).set 2 (Value.slice e j f)).set 3 (Value.map (some (w.heap.size + 1 + 1)))).set 4 (Value.map (some (w.heap.size + 1 + 1 + 1))))
              have XR6 : Hid (w6.heap[w.heap.size + 1]? = some (Obj.cells #[Value.slice (some ad) k c, Value.slice b q d, Value.slice e j f, Value.map (some (w.heap.size + 1 + 1)), Value.map (some (w.heap.size + 1 + 1 + 1))] 68)) := hide (by rw [e6]; exact (hset (hset (hset (hset (hset XR.out 0 (Value.slice (some ad) k c)) 1 (Value.slice b q d)) 2 (Value.slice e j f)) 3 (Value.map (some (w.heap.size + 1 + 1)))) 4 (Value.map (some (w.heap.size + 1 + 1 + 1)))))
              rw [← e6]
              clear e6 kr0 fr0 kr1 fr1 kr2 fr2 kr3 fr3 kr4 fr4
              have kr0 : w6.cell? ⟨w.heap.size + 1, 0, none⟩ = some (Value.slice (some ad) k c) := (Lib.cell_of_heap XR6.out 0).trans rfl
              have kr1 : w6.cell? ⟨w.heap.size + 1, 1, none⟩ = some (Value.slice b q d) := (Lib.cell_of_heap XR6.out 1).trans rfl
              have kr2 : w6.cell? ⟨w.heap.size + 1, 2, none⟩ = some (Value.slice e j f) := (Lib.cell_of_heap XR6.out 2).trans rfl
              have kr3 : w6.cell? ⟨w.heap.size + 1, 3, none⟩ = some (Value.map (some (w.heap.size + 1 + 1))) := (Lib.cell_of_heap XR6.out 3).trans rfl
              have kr4 : w6.cell? ⟨w.heap.size + 1, 4, none⟩ = some (Value.map (some (w.heap.size + 1 + 1 + 1))) := (Lib.cell_of_heap XR6.out 4).trans rfl
              refine bodyPost_ret (v := .tuple #[.agg #[Value.slice (some ad) k c, Value.slice b q d, Value.slice e j f, Value.map (some (w.heap.size + 1 + 1)), Value.map (some (w.heap.size + 1 + 1 + 1))], .bool true]) (by simp [results, Tryz.results30, go_sem, kr0, kr1, kr2, kr3, kr4]) rfl ?_
              exact .inr ⟨w.heap.size + 1 + 1, w.heap.size + 1 + 1 + 1, rfl, HBP.out, M1.out.grown hst.grown (by intro e; have h : w.heap.size + 1 + 1 = w.heap.size + 1 := Option.some.inj e; omega), M2'.out.grown hst.grown (by intro e; have h : w.heap.size + 1 + 1 + 1 = w.heap.size + 1 := Option.some.inj e; omega), ⟨by omega, by omega⟩, St.below HB.out hst (by omega)⟩

end Go.Proofs.YtnjaejaibbgkpaaGreat

/- BookOk of the program, and the walk of the exact law of BookOk. -/
namespace Go.Proofs.YtnjaejaibbgkpaaGreat
open Go.RowKit
set_option linter.unusedVariables false
set_option maxRecDepth 20000

set_option maxHeartbeats 4000000 in
set_option maxRecDepth 20000 in
theorem bookOkI (ad : Addr) (n c : Nat) (bs : List ByteArray) (b : Option Addr) (m d : Nat) (ps : List (List Lf)) (e : Option Addr) (l f : Nat) (us : List (List Lf)) (X Y : Nat → Prop) (w : World) (hs : SSeg w (some ad) n c bs) (hp : RSeg w X 5 b m d ps) (hsp : ∀ r ∈ ps, ShPf r) (hu : RSeg w Y 7 e l f us) (hsu : ∀ r ∈ us, ShUn r) (ht : stot bs + (rtot ps + rtot us) ≤ 1048576) :
    Calls Tryz.prog 8 #[Value.agg #[Value.slice (some ad) n c, Value.slice b m d, Value.slice e l f]] w fun e' w' => Tells (BookP bs ps us) e' ∧ Below w.heap.size w w' := by
  have HS := hide hs
  have HP := hide hp
  have HU := hide hu
  clear hs hp hu
  have Xa : Hid ((w.alloc (Obj.cells #[Value.slice (some ad) n c, Value.slice b m d, Value.slice e l f] 32)).heap[w.heap.size]? = some (.cells #[Value.slice (some ad) n c, Value.slice b m d, Value.slice e l f] 32 (0, 0))) := hide (by simpa only [World.size_alloc] using (hnew w (Obj.cells #[Value.slice (some ad) n c, Value.slice b m d, Value.slice e l f] 32)))
  have HB : Hid (Below w.heap.size w (w.alloc (Obj.cells #[Value.slice (some ad) n c, Value.slice b m d, Value.slice e l f] 32))) := hide (bl_alloc (bl_refl w) (Obj.cells #[Value.slice (some ad) n c, Value.slice b m d, Value.slice e l f] 32))
  have yw1 : w.heap.size + 1 ≤ (w.alloc (Obj.cells #[Value.slice (some ad) n c, Value.slice b m d, Value.slice e l f] 32)).heap.size := by simp only [World.size_alloc]; omega
  have ka0 : (w.alloc (Obj.cells #[Value.slice (some ad) n c, Value.slice b m d, Value.slice e l f] 32)).cell? ⟨w.heap.size, 0, none⟩ = some (Value.slice (some ad) n c) := (Lib.cell_of_heap Xa.out 0).trans rfl
  have fa0 : (w.alloc (Obj.cells #[Value.slice (some ad) n c, Value.slice b m d, Value.slice e l f] 32)).frozen? ⟨w.heap.size, 0, none⟩ = false := Lib.frozen_of_heap Xa.out 0
  have ka1 : (w.alloc (Obj.cells #[Value.slice (some ad) n c, Value.slice b m d, Value.slice e l f] 32)).cell? ⟨w.heap.size, 1, none⟩ = some (Value.slice b m d) := (Lib.cell_of_heap Xa.out 1).trans rfl
  have fa1 : (w.alloc (Obj.cells #[Value.slice (some ad) n c, Value.slice b m d, Value.slice e l f] 32)).frozen? ⟨w.heap.size, 1, none⟩ = false := Lib.frozen_of_heap Xa.out 1
  have ka2 : (w.alloc (Obj.cells #[Value.slice (some ad) n c, Value.slice b m d, Value.slice e l f] 32)).cell? ⟨w.heap.size, 2, none⟩ = some (Value.slice e l f) := (Lib.cell_of_heap Xa.out 2).trans rfl
  have fa2 : (w.alloc (Obj.cells #[Value.slice (some ad) n c, Value.slice b m d, Value.slice e l f] 32)).frozen? ⟨w.heap.size, 2, none⟩ = false := Lib.frozen_of_heap Xa.out 2
  have za : w.heap.size < (w.alloc (Obj.cells #[Value.slice (some ad) n c, Value.slice b m d, Value.slice e l f] 32)).heap.size := hlt Xa.out
  go_enter Tryz.func8, Tryz.ntmps8
  go_wp2_with fail
  generalize (w.alloc (Obj.cells #[Value.slice (some ad) n c, Value.slice b m d, Value.slice e l f] 32)) = w1 at *
  refine (catalogI ad n c bs b m d ps e l f us X Y _ (HS.out.below HB.out) (HP.out.below HB.out) hsp (HU.out.below HB.out) hsu ht).mono ?_
  rintro e2 w2 hpost
  rcases hpost with ⟨rfl, hno, hb2⟩ | ⟨B1, B2, rfl, hyes, _, _, _, hb2⟩
  · have HX := hide hno
    have HB2 := hide (bl_trans HB.out hb2)
    clear hno hb2
    go_wp2
    go_ret
    exact ⟨tell_no HX.out, bl_alloc HB2.out _⟩
  · have HX := hide hyes
    have HB2 := hide (bl_trans HB.out hb2)
    clear hyes hb2
    go_wp2
    go_ret
    exact ⟨tell_yes HX.out, bl_alloc HB2.out _⟩

set_option maxHeartbeats 4000000 in
set_option maxRecDepth 20000 in
theorem walkBookOk (a : Option Addr) (n c : Nat) (bs : List ByteArray) (b : Option Addr) (m d : Nat) (ps : List (List Lf)) (e : Option Addr) (l f : Nat) (us : List (List Lf)) (w : World) (hs : SSeg w a n c bs) (hp : RSeg w (fun _ => True) 5 b m d ps) (hsp : ∀ r ∈ ps, ShPf r) (hu : RSeg w (fun _ => True) 7 e l f us) (hsu : ∀ r ∈ us, ShUn r) :
    Calls Tryz.prog 3 #[Value.agg #[Value.slice a n c, Value.slice b m d, Value.slice e l f]] w fun e' w' => e' = .returned (.bool true) ∧ Below w.heap.size w w' := by
  have hb0 : bs.length = n := hs.1
  have hp0 : ps.length = m := hp.1
  have hu0 : us.length = l := hu.1
  have HS := hide hs
  have HP := hide hp
  have HU := hide hu
  clear hs hp hu
  have Xa : Hid ((w.alloc (Obj.cells #[Value.slice a n c, Value.slice b m d, Value.slice e l f] 26)).heap[w.heap.size]? = some (.cells #[Value.slice a n c, Value.slice b m d, Value.slice e l f] 26 (0, 0))) := hide (by simpa only [World.size_alloc] using (hnew w (Obj.cells #[Value.slice a n c, Value.slice b m d, Value.slice e l f] 26)))
  have HB : Hid (Below w.heap.size w (w.alloc (Obj.cells #[Value.slice a n c, Value.slice b m d, Value.slice e l f] 26))) := hide (bl_alloc (bl_refl w) (Obj.cells #[Value.slice a n c, Value.slice b m d, Value.slice e l f] 26))
  have yw1 : w.heap.size + 1 ≤ (w.alloc (Obj.cells #[Value.slice a n c, Value.slice b m d, Value.slice e l f] 26)).heap.size := by simp only [World.size_alloc]; omega
  have ka0 : (w.alloc (Obj.cells #[Value.slice a n c, Value.slice b m d, Value.slice e l f] 26)).cell? ⟨w.heap.size, 0, none⟩ = some (Value.slice a n c) := (Lib.cell_of_heap Xa.out 0).trans rfl
  have fa0 : (w.alloc (Obj.cells #[Value.slice a n c, Value.slice b m d, Value.slice e l f] 26)).frozen? ⟨w.heap.size, 0, none⟩ = false := Lib.frozen_of_heap Xa.out 0
  have ka1 : (w.alloc (Obj.cells #[Value.slice a n c, Value.slice b m d, Value.slice e l f] 26)).cell? ⟨w.heap.size, 1, none⟩ = some (Value.slice b m d) := (Lib.cell_of_heap Xa.out 1).trans rfl
  have fa1 : (w.alloc (Obj.cells #[Value.slice a n c, Value.slice b m d, Value.slice e l f] 26)).frozen? ⟨w.heap.size, 1, none⟩ = false := Lib.frozen_of_heap Xa.out 1
  have ka2 : (w.alloc (Obj.cells #[Value.slice a n c, Value.slice b m d, Value.slice e l f] 26)).cell? ⟨w.heap.size, 2, none⟩ = some (Value.slice e l f) := (Lib.cell_of_heap Xa.out 2).trans rfl
  have fa2 : (w.alloc (Obj.cells #[Value.slice a n c, Value.slice b m d, Value.slice e l f] 26)).frozen? ⟨w.heap.size, 2, none⟩ = false := Lib.frozen_of_heap Xa.out 2
  have za : w.heap.size < (w.alloc (Obj.cells #[Value.slice a n c, Value.slice b m d, Value.slice e l f] 26)).heap.size := hlt Xa.out
  go_enter Tryz.func3, Tryz.ntmps3
  go_wp2_with fail
  generalize (w.alloc (Obj.cells #[Value.slice a n c, Value.slice b m d, Value.slice e l f] 26)) = w1 at *
  refine (szBk a n c b m d e l f bs ps us _ _ 1048576 _ (HS.out.below HB.out) (HP.out.below HB.out) hsp (HU.out.below HB.out) hsu (by omega) (by omega)).mono ?_
  rintro e w2 ⟨rfl, hb⟩
  have yw2 := hb.size
  clear ka0 fa0 ka1 fa1 ka2 fa2 za
  replace Xa := hide (hbel Xa.out hb (by first | assumption | omega))
  replace HB := hide (bl_trans HB.out hb)
  clear hb
  have ka0 : w2.cell? ⟨w.heap.size, 0, none⟩ = some (Value.slice a n c) := (Lib.cell_of_heap Xa.out 0).trans rfl
  have fa0 : w2.frozen? ⟨w.heap.size, 0, none⟩ = false := Lib.frozen_of_heap Xa.out 0
  have ka1 : w2.cell? ⟨w.heap.size, 1, none⟩ = some (Value.slice b m d) := (Lib.cell_of_heap Xa.out 1).trans rfl
  have fa1 : w2.frozen? ⟨w.heap.size, 1, none⟩ = false := Lib.frozen_of_heap Xa.out 1
  have ka2 : w2.cell? ⟨w.heap.size, 2, none⟩ = some (Value.slice e l f) := (Lib.cell_of_heap Xa.out 2).trans rfl
  have fa2 : w2.frozen? ⟨w.heap.size, 2, none⟩ = false := Lib.frozen_of_heap Xa.out 2
  have za : w.heap.size < w2.heap.size := hlt Xa.out
  by_cases hz : (1048576 : Int) < ((bksz bs ps us : Nat) : Int)
  · have HE : rleft 1048576 (bksz bs ps us) = -1 := by unfold rleft; rw [if_pos hz]
    rw [HE]
    clear HE
    go_wp2
    go_ret
    exact ⟨rfl, HB.out⟩
  have HE : rleft 1048576 (bksz bs ps us) = 1048576 - ((bksz bs ps us : Nat) : Int) := by unfold rleft; rw [if_neg hz]
  have ht : bksz bs ps us ≤ 1048576 := by omega
  have ht2 : stot bs + (rtot ps + rtot us) ≤ 1048576 := by unfold bksz at ht; omega
  have hz0 : ¬ 1048576 - ((bksz bs ps us : Nat) : Int) < 0 := by omega
  rw [HE]
  clear HE hz
  have HT := hide ht
  clear ht
  generalize ((bksz bs ps us : Nat) : Int) = z at *
  go_wp2_with fail
  refine (toBk a n c b m d e l f bs ps us _ _ _ (HS.out.below HB.out) (HP.out.below HB.out) hsp (HU.out.below HB.out) hsu HT.out).mono ?_
  rintro e w3 ⟨g11, g12, g13, rfl, hx1, hy1, hz1, hb⟩
  have yw3 := hb.size
  clear ka0 fa0 ka1 fa1 ka2 fa2 za
  replace Xa := hide (hbel Xa.out hb (by first | assumption | omega))
  replace HB := hide (bl_trans HB.out hb)
  clear hb
  have MS1 := hide hx1
  clear hx1
  have MP1 := hide hy1
  clear hy1
  have MU1 := hide hz1
  clear hz1
  have ka0 : w3.cell? ⟨w.heap.size, 0, none⟩ = some (Value.slice a n c) := (Lib.cell_of_heap Xa.out 0).trans rfl
  have fa0 : w3.frozen? ⟨w.heap.size, 0, none⟩ = false := Lib.frozen_of_heap Xa.out 0
  have ka1 : w3.cell? ⟨w.heap.size, 1, none⟩ = some (Value.slice b m d) := (Lib.cell_of_heap Xa.out 1).trans rfl
  have fa1 : w3.frozen? ⟨w.heap.size, 1, none⟩ = false := Lib.frozen_of_heap Xa.out 1
  have ka2 : w3.cell? ⟨w.heap.size, 2, none⟩ = some (Value.slice e l f) := (Lib.cell_of_heap Xa.out 2).trans rfl
  have fa2 : w3.frozen? ⟨w.heap.size, 2, none⟩ = false := Lib.frozen_of_heap Xa.out 2
  have za : w.heap.size < w3.heap.size := hlt Xa.out
  go_wp2_with fail
  refine (bookOkS _ n n bs _ m m ps _ l l us _ _ _ MS1.out MP1.out hsp MU1.out hsu ht2).mono ?_
  rintro e w4 ⟨⟨x1, rfl, hx1⟩, hb⟩
  have yw4 := hb.size
  clear ka0 fa0 ka1 fa1 ka2 fa2 za
  replace Xa := hide (hbel Xa.out hb (by first | assumption | omega))
  replace MS1 := hide (MS1.out.below hb)
  replace MP1 := hide (MP1.out.below hb)
  replace MU1 := hide (MU1.out.below hb)
  replace HB := hide (bl_trans HB.out hb)
  clear hb
  have ka0 : w4.cell? ⟨w.heap.size, 0, none⟩ = some (Value.slice a n c) := (Lib.cell_of_heap Xa.out 0).trans rfl
  have fa0 : w4.frozen? ⟨w.heap.size, 0, none⟩ = false := Lib.frozen_of_heap Xa.out 0
  have ka1 : w4.cell? ⟨w.heap.size, 1, none⟩ = some (Value.slice b m d) := (Lib.cell_of_heap Xa.out 1).trans rfl
  have fa1 : w4.frozen? ⟨w.heap.size, 1, none⟩ = false := Lib.frozen_of_heap Xa.out 1
  have ka2 : w4.cell? ⟨w.heap.size, 2, none⟩ = some (Value.slice e l f) := (Lib.cell_of_heap Xa.out 2).trans rfl
  have fa2 : w4.frozen? ⟨w.heap.size, 2, none⟩ = false := Lib.frozen_of_heap Xa.out 2
  have za : w.heap.size < w4.heap.size := hlt Xa.out
  have HX1 := hide hx1
  clear hx1 MS1 MP1 MU1
  go_wp2_with fail
  refine (toBk a n c b m d e l f bs ps us _ _ _ (HS.out.below HB.out) (HP.out.below HB.out) hsp (HU.out.below HB.out) hsu HT.out).mono ?_
  rintro e w5 ⟨g21, g22, g23, rfl, hx2, hy2, hz2, hb⟩
  have yw5 := hb.size
  clear ka0 fa0 ka1 fa1 ka2 fa2 za
  replace Xa := hide (hbel Xa.out hb (by first | assumption | omega))
  replace HB := hide (bl_trans HB.out hb)
  clear hb
  have MS2 := hide hx2
  clear hx2
  have MP2 := hide hy2
  clear hy2
  have MU2 := hide hz2
  clear hz2
  have ka0 : w5.cell? ⟨w.heap.size, 0, none⟩ = some (Value.slice a n c) := (Lib.cell_of_heap Xa.out 0).trans rfl
  have fa0 : w5.frozen? ⟨w.heap.size, 0, none⟩ = false := Lib.frozen_of_heap Xa.out 0
  have ka1 : w5.cell? ⟨w.heap.size, 1, none⟩ = some (Value.slice b m d) := (Lib.cell_of_heap Xa.out 1).trans rfl
  have fa1 : w5.frozen? ⟨w.heap.size, 1, none⟩ = false := Lib.frozen_of_heap Xa.out 1
  have ka2 : w5.cell? ⟨w.heap.size, 2, none⟩ = some (Value.slice e l f) := (Lib.cell_of_heap Xa.out 2).trans rfl
  have fa2 : w5.frozen? ⟨w.heap.size, 2, none⟩ = false := Lib.frozen_of_heap Xa.out 2
  have za : w.heap.size < w5.heap.size := hlt Xa.out
  go_wp2_with fail
  have Xx : Hid ((w5.alloc (Obj.cells #[Value.slice (some ⟨g21, 0, none⟩) n n, Value.slice (some ⟨g22, 0, none⟩) m m, Value.slice (some ⟨g23, 0, none⟩) l l] 32)).heap[w5.heap.size]? = some (Obj.cells #[Value.slice (some ⟨g21, 0, none⟩) n n, Value.slice (some ⟨g22, 0, none⟩) m m, Value.slice (some ⟨g23, 0, none⟩) l l] 32)) := hide (hnew _ _)
  have hbn := (bl_alloc (bl_refl w5) (Obj.cells #[Value.slice (some ⟨g21, 0, none⟩) n n, Value.slice (some ⟨g22, 0, none⟩) m m, Value.slice (some ⟨g23, 0, none⟩) l l] 32))
  have yw6 : w5.heap.size + 1 ≤ (w5.alloc (Obj.cells #[Value.slice (some ⟨g21, 0, none⟩) n n, Value.slice (some ⟨g22, 0, none⟩) m m, Value.slice (some ⟨g23, 0, none⟩) l l] 32)).heap.size := by simp only [World.size_alloc]; omega
  generalize w5.alloc (Obj.cells #[Value.slice (some ⟨g21, 0, none⟩) n n, Value.slice (some ⟨g22, 0, none⟩) m m, Value.slice (some ⟨g23, 0, none⟩) l l] 32) = w6 at *
  clear ka0 fa0 ka1 fa1 ka2 fa2 za
  replace Xa := hide (hbel Xa.out hbn (by first | assumption | omega))
  replace MS2 := hide (MS2.out.below hbn)
  replace MP2 := hide (MP2.out.below hbn)
  replace MU2 := hide (MU2.out.below hbn)
  replace HB := hide (bl_trans HB.out hbn)
  clear hbn
  have ka0 : w6.cell? ⟨w.heap.size, 0, none⟩ = some (Value.slice a n c) := (Lib.cell_of_heap Xa.out 0).trans rfl
  have fa0 : w6.frozen? ⟨w.heap.size, 0, none⟩ = false := Lib.frozen_of_heap Xa.out 0
  have ka1 : w6.cell? ⟨w.heap.size, 1, none⟩ = some (Value.slice b m d) := (Lib.cell_of_heap Xa.out 1).trans rfl
  have fa1 : w6.frozen? ⟨w.heap.size, 1, none⟩ = false := Lib.frozen_of_heap Xa.out 1
  have ka2 : w6.cell? ⟨w.heap.size, 2, none⟩ = some (Value.slice e l f) := (Lib.cell_of_heap Xa.out 2).trans rfl
  have fa2 : w6.frozen? ⟨w.heap.size, 2, none⟩ = false := Lib.frozen_of_heap Xa.out 2
  have za : w.heap.size < w6.heap.size := hlt Xa.out
  have kx0 : w6.cell? ⟨w5.heap.size, 0, none⟩ = some (Value.slice (some ⟨g21, 0, none⟩) n n) := (Lib.cell_of_heap Xx.out 0).trans rfl
  have fx0 : w6.frozen? ⟨w5.heap.size, 0, none⟩ = false := Lib.frozen_of_heap Xx.out 0
  have kx1 : w6.cell? ⟨w5.heap.size, 1, none⟩ = some (Value.slice (some ⟨g22, 0, none⟩) m m) := (Lib.cell_of_heap Xx.out 1).trans rfl
  have fx1 : w6.frozen? ⟨w5.heap.size, 1, none⟩ = false := Lib.frozen_of_heap Xx.out 1
  have kx2 : w6.cell? ⟨w5.heap.size, 2, none⟩ = some (Value.slice (some ⟨g23, 0, none⟩) l l) := (Lib.cell_of_heap Xx.out 2).trans rfl
  have fx2 : w6.frozen? ⟨w5.heap.size, 2, none⟩ = false := Lib.frozen_of_heap Xx.out 2
  have zx : w5.heap.size < w6.heap.size := hlt Xx.out
  refine (bookOkI _ n n bs _ m m ps _ l l us _ _ _ MS2.out MP2.out hsp MU2.out hsu ht2).mono ?_
  rintro e w7 ⟨⟨x2, rfl, hx2⟩, hb⟩
  have yw7 := hb.size
  clear ka0 fa0 ka1 fa1 ka2 fa2 za
  clear kx0 fx0 kx1 fx1 kx2 fx2 zx
  replace Xa := hide (hbel Xa.out hb (by first | assumption | omega))
  replace Xx := hide (hbel Xx.out hb (by first | assumption | omega))
  replace MS2 := hide (MS2.out.below hb)
  replace MP2 := hide (MP2.out.below hb)
  replace MU2 := hide (MU2.out.below hb)
  replace HB := hide (bl_trans HB.out hb)
  clear hb
  have ka0 : w7.cell? ⟨w.heap.size, 0, none⟩ = some (Value.slice a n c) := (Lib.cell_of_heap Xa.out 0).trans rfl
  have fa0 : w7.frozen? ⟨w.heap.size, 0, none⟩ = false := Lib.frozen_of_heap Xa.out 0
  have ka1 : w7.cell? ⟨w.heap.size, 1, none⟩ = some (Value.slice b m d) := (Lib.cell_of_heap Xa.out 1).trans rfl
  have fa1 : w7.frozen? ⟨w.heap.size, 1, none⟩ = false := Lib.frozen_of_heap Xa.out 1
  have ka2 : w7.cell? ⟨w.heap.size, 2, none⟩ = some (Value.slice e l f) := (Lib.cell_of_heap Xa.out 2).trans rfl
  have fa2 : w7.frozen? ⟨w.heap.size, 2, none⟩ = false := Lib.frozen_of_heap Xa.out 2
  have za : w.heap.size < w7.heap.size := hlt Xa.out
  have kx0 : w7.cell? ⟨w5.heap.size, 0, none⟩ = some (Value.slice (some ⟨g21, 0, none⟩) n n) := (Lib.cell_of_heap Xx.out 0).trans rfl
  have fx0 : w7.frozen? ⟨w5.heap.size, 0, none⟩ = false := Lib.frozen_of_heap Xx.out 0
  have kx1 : w7.cell? ⟨w5.heap.size, 1, none⟩ = some (Value.slice (some ⟨g22, 0, none⟩) m m) := (Lib.cell_of_heap Xx.out 1).trans rfl
  have fx1 : w7.frozen? ⟨w5.heap.size, 1, none⟩ = false := Lib.frozen_of_heap Xx.out 1
  have kx2 : w7.cell? ⟨w5.heap.size, 2, none⟩ = some (Value.slice (some ⟨g23, 0, none⟩) l l) := (Lib.cell_of_heap Xx.out 2).trans rfl
  have fx2 : w7.frozen? ⟨w5.heap.size, 2, none⟩ = false := Lib.frozen_of_heap Xx.out 2
  have zx : w5.heap.size < w7.heap.size := hlt Xx.out
  obtain rfl : x2 = x1 := Bool.eq_iff_iff.2 (hx2.trans HX1.out.symm)
  clear hx2 HX1
  have hxx : (x2 != x2) = false := by simp
  go_wp2_with fail
  have KP : Hid (∀ w', Below w7.heap.size w7 w' → (w'.cell? ⟨w.heap.size, 0, none⟩ = some (Value.slice a n c) ∧ w'.cell? ⟨w.heap.size, 1, none⟩ = some (Value.slice b m d) ∧ w'.cell? ⟨w.heap.size, 2, none⟩ = some (Value.slice e l f) ∧ w'.cell? ⟨w5.heap.size, 0, none⟩ = some (Value.slice (some ⟨g21, 0, none⟩) n n) ∧ w'.cell? ⟨w5.heap.size, 1, none⟩ = some (Value.slice (some ⟨g22, 0, none⟩) m m) ∧ w'.cell? ⟨w5.heap.size, 2, none⟩ = some (Value.slice (some ⟨g23, 0, none⟩) l l))) := hide (fun w' h => ⟨(h.cell (p := ⟨w.heap.size, 0, none⟩) za).trans ka0, (h.cell (p := ⟨w.heap.size, 1, none⟩) za).trans ka1, (h.cell (p := ⟨w.heap.size, 2, none⟩) za).trans ka2, (h.cell (p := ⟨w5.heap.size, 0, none⟩) zx).trans kx0, (h.cell (p := ⟨w5.heap.size, 1, none⟩) zx).trans kx1, (h.cell (p := ⟨w5.heap.size, 2, none⟩) zx).trans kx2⟩)
  go_region_held3 (fun w' => w'.cell? ⟨w.heap.size, 0, none⟩ = some (Value.slice a n c) ∧ w'.cell? ⟨w.heap.size, 1, none⟩ = some (Value.slice b m d) ∧ w'.cell? ⟨w.heap.size, 2, none⟩ = some (Value.slice e l f) ∧ w'.cell? ⟨w5.heap.size, 0, none⟩ = some (Value.slice (some ⟨g21, 0, none⟩) n n) ∧ w'.cell? ⟨w5.heap.size, 1, none⟩ = some (Value.slice (some ⟨g22, 0, none⟩) m m) ∧ w'.cell? ⟨w5.heap.size, 2, none⟩ = some (Value.slice (some ⟨g23, 0, none⟩) l l))
    (first | exact KP.out _ (bl_refl w7).drew | exact KP.out _ hbY | exact KP.out _ hbX)
    (first
      | (go_at_call 7; refine (toBk a n c b m d e l f bs ps us _ _ _ ((HS.out.below HB.out).below (bl_refl w7).drew) ((HP.out.below HB.out).below (bl_refl w7).drew) hsp ((HU.out.below HB.out).below (bl_refl w7).drew) hsu HT.out).mono ?_; rintro e wX ⟨g31, g32, g33, rfl, hx3, hy3, hz3, hbXr⟩; have hbX : Below w7.heap.size w7 wX := (bl_refl w7).drew.trans hbXr)
      | (go_at_call 9; refine (eqBk _ n n _ m m _ l l _ n _ m _ l bs ps us _ _ _ _ _ (MS2.out.below hbX) (MP2.out.below hbX) hsp (MU2.out.below hbX) hsu hx3 hy3 hz3).mono ?_; rintro e wY ⟨rfl, hbYr⟩; have hbY : Below w7.heap.size w7 wY := bl_trans hbX hbYr))
  clear KP
  have HBY := hide (bl_trans HB.out hbY)
  clear hbX hbY
  go_wp2
  go_ret
  exact ⟨rfl, HBY.out⟩
end Go.Proofs.YtnjaejaibbgkpaaGreat
