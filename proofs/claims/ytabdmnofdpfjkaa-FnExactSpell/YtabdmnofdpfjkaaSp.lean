/- The walks of both Spell: the texts in order, with a blank between two. -/
import Derived.Test.YtabdmnofdpfjkaaLp
import Derived.Test.YtabdmnofdpfjkaaSb
import Derived.Laws.IdiomStrings
import Derived.Laws.BytesArg
namespace Go.Proofs.Ytabdmnofdpfjkaa
open Go.RowKit
set_option linter.unusedVariables false

/-- the first words written one behind the other, with a blank between two -/
def spk (ts : List (Int × ByteArray × Int)) : Nat → List UInt8
  | 0 => []
  | k + 1 => (if k = 0 then spk ts k else spk ts k ++ [32]) ++ ((ts[k]?).map (fun t => t.2.1.data.toList)).getD []
theorem spk_one {ts : List (Int × ByteArray × Int)} (h : 0 < ts.length) : spk ts 1 = ts[0].2.1.data.toList := by
  simp [spk, List.getElem?_eq_getElem h]
theorem spk_more {ts : List (Int × ByteArray × Int)} {k : Nat} (h : k < ts.length) (h0 : 0 < k) : spk ts (k + 1) = spk ts k ++ [32] ++ ts[k].2.1.data.toList := by
  simp [spk, List.getElem?_eq_getElem h, Nat.ne_of_gt h0]
theorem spk_len (ts : List (Int × ByteArray × Int)) (k : Nat) (h : k ≤ ts.length) : (spk ts k).length ≤ k + tot (ts.take k) := by
  induction k with
  | zero => simp [spk]
  | succ k ih =>
    have i := ih (by omega)
    rw [tot_take ts k (by omega)]
    have e : ts[k].2.1.data.toList.length = ts[k].2.1.size := by rw [Array.length_toList]; rfl
    by_cases hk : k = 0
    · subst hk; rw [spk_one (by omega)]; omega
    · rw [spk_more (by omega) (by omega)]; simp only [List.length_append, List.length_cons, List.length_nil]; omega
theorem tot_le (ts : List (Int × ByteArray × Int)) (k : Nat) : tot (ts.take k) ≤ tot ts := by
  induction ts generalizing k with
  | nil => simp [tot]
  | cons t r ih => cases k with
    | zero => simp [tot]
    | succ k => simp only [List.take_succ_cons, tot]; have := ih k; omega
theorem bytes_app (l : List UInt8) (s : ByteArray) : Lib.byteCells l ++ Lib.strCells s = Lib.byteCells (l ++ s.data.toList) := by simp [Lib.byteCells, Lib.strCells]
theorem isb_alloc {T e : TypeId} {B b : Nat} {bs : List Value} {w : World} (h : Lib.IsBuilder T e B b bs w) (o : Obj) : Lib.IsBuilder T e B b bs (w.alloc o) := by
  have f : ∀ p, Lib.BuilderAt T e B b p bs w → Lib.BuilderAt T e B b p bs (w.alloc o) := by
    intro p h
    have hlt := h.lt
    obtain ⟨hB, v, hb, ho, hne⟩ := h
    exact ⟨hB, v, (Lib.alloc_old w o b hlt).trans hb, ho.alloc o, hne⟩
  rcases h with h | h
  · exact .inl (f _ h)
  · exact .inr (f _ h)

set_option maxHeartbeats 4000000 in
theorem spellI (a : Option Addr) (n cap : Nat) (ts : List (Int × ByteArray × Int)) (w : World) (hs : TSeg w a n cap ts) (hn : n + tot ts ≤ 1048576) :
    Calls Try.prog 7 #[.slice a n cap] w fun e w' => e = .returned (.string ⟨(spk ts n).toArray⟩) ∧ Below w.heap.size w w' := by
  have hxl := hs.1
  have hcap := hs.2.1
  have hcm := hs.2.2.1
  have HS := hide hs
  clear hs
  have HI0 := hide (Lib.fresh_isBuilder 37 5 w)
  have HB0 := hide (bl_alloc (bl_refl w) (.cells #[.pointer none, .slice none 0 0] 37))
  go_enter Try.func7, Try.ntmps7
  go_wp2
  go_loopw [8] (fun i wr => ∃ k : Nat, k ≤ n ∧ i = .int .i64 k ∧ Hid (Lib.IsBuilder 37 5 w.heap.size w.heap.size (Lib.byteCells (spk ts k)) wr) ∧ Hid (Below w.heap.size w wr) ∧ w.heap.size < wr.heap.size) (fun i _ => n - (intOf i).toNat)
  case atStart => exact ⟨0, Nat.zero_le _, rfl, HI0, HB0, by simp only [World.size_alloc]; omega⟩
  case round =>
    obtain ⟨k, hk, rfl, hI, hb, hz⟩ := hrel
    by_cases hlt : k < n
    · have hlt' : (k : Int) < (n : Int) := by omega
      have hkx : k < ts.length := by omega
      obtain ⟨g, o, rfl, hg, c0, c1, c2⟩ := (HS.out.below hb.out).at hkx
      have hsz := HS.out.2.2.2.1 ts[k] (List.getElem_mem _)
      have hl := spk_len ts k (by omega)
      have e2 := tot_mono ts k hkx
      have E2 := hide e2
      have HL := hide hl
      clear e2 hl
      by_cases hk0 : k = 0
      · have hk1 : ¬ (0 : Int) < (k : Int) := by omega
        have E0 : Hid (spk ts k = []) := hide (by rw [hk0]; rfl)
        have E1 : Hid (spk ts (k + 1) = ts[k].2.1.data.toList) := hide (by subst hk0; exact spk_one hkx)
        clear hk0
        generalize ts[k].1 = K at *
        generalize ts[k].2.1 = s at *
        generalize ts[k].2.2 = p at *
        go_wp2_with (go_at_call 11; refine (writeS w.heap.size w.heap.size (Lib.byteCells (spk ts k)) s _ (isb_alloc hI.out _) ?_ ?_).mono ?_; (rw [Lib.byteCells_length]; have := E2.out; have := HL.out; omega); (simp only [World.size_alloc]; omega); rintro e w2 ⟨rfl, hI2, hb2, _⟩)
        have hq := hb2.size
        simp only [World.size_alloc] at hq
        exact ⟨⟨k + 1, by omega, by go_num, hide (by rw [E1.out]; rw [bytes_app, E0.out, List.nil_append] at hI2; exact hI2), hide ((bl_alloc hb.out _).trans hb2), by omega⟩, by simp [intOf]; omega⟩
      · have hk1 : (0 : Int) < (k : Int) := by omega
        have E1 := hide (spk_more hkx (by omega))
        generalize ts[k].1 = K at *
        generalize ts[k].2.1 = s at *
        generalize ts[k].2.2 = p at *
        go_wp2_with (first
          | (go_at_call_of 11 (Value.string ⟨#[32]⟩); refine (writeS w.heap.size w.heap.size (Lib.byteCells (spk ts k)) ⟨#[32]⟩ _ (isb_alloc hI.out _) ?_ ?_).mono ?_; (rw [Lib.byteCells_length]; have := E2.out; have := HL.out; have : (ByteArray.mk #[32]).size = 1 := rfl; omega); (simp only [World.size_alloc]; omega); rintro e w2 ⟨rfl, hI2, hb2, hk2⟩; have HI2 := hide hI2; have hB2 := (bl_alloc hb.out (.cells #[.int .i64 K, .string s, .int .i64 p] 33)).trans hb2; have hq := hb2.size; simp only [World.size_alloc] at hq; have hbx := hk2 wr.heap.size (.cells #[.int .i64 K, .string s, .int .i64 p] 33 (0, 0)) (heap_alloc_new wr _) (fun e => by injection e; omega) (fun _ _ e => by injection e with _ e _; exact absurd e (by decide)); have d1 : w2.cell? ⟨wr.heap.size, 1, none⟩ = some (.string s) := (Lib.cell_of_heap hbx 1).trans rfl; clear hk2 hb2 hI2 hbx)
          | (go_at_call 11; refine (writeS w.heap.size w.heap.size _ s _ HI2.out ?_ ?_).mono ?_; (rw [List.length_append, Lib.byteCells_length, Lib.strCells_length]; have := E2.out; have := HL.out; have : (ByteArray.mk #[32]).size = 1 := rfl; omega); omega; rintro e w3 ⟨rfl, hI3, hb3, _⟩))
        have hq3 := hb3.size
        exact ⟨⟨k + 1, by omega, by go_num, hide (by rw [E1.out]; rw [bytes_app, bytes_app] at hI3; exact hI3), hide (hB2.trans hb3), by omega⟩, by simp [intOf]; omega⟩
    · obtain rfl : k = n := by omega
      go_wp2_with (go_at_call 12; refine (Try.Builder_String_any w.heap.size w.heap.size (spk ts k) _ hI.out (Nat.le_of_lt hz)).mono ?_; rintro e w2 ⟨rfl, hb2⟩)
      go_ret
      exact ⟨rfl, hb.out.trans hb2⟩
end Go.Proofs.Ytabdmnofdpfjkaa
