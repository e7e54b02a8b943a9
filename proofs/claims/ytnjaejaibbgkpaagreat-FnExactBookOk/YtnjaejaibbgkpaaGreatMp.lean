/- isFree and enter: a name that is entered where it is free. -/
import Derived.Test.YtnjaejaibbgkpaaGreatMp0
import Derived.Test.YtnjaejaibbgkpaaGreatNmN
namespace Go.Proofs.YtnjaejaibbgkpaaGreat
open Go.RowKit Go.Maps
set_option linter.unusedVariables false
set_option maxRecDepth 20000

set_option maxHeartbeats 4000000 in
theorem isFreeI (B : Nat) (ts : List ByteArray) (s : ByteArray) (w : World) (hm : MapN w B ts) (hs : s.size ≤ 140737488355328) :
    Calls Tryz.prog 79 #[.map (some B), .string s] w fun e w' => e = .returned (.bool (!inB s ts && Nm.nameOkB s)) ∧ Below w.heap.size w w' := by
  have hkey : keyOf Tryz.prog 9 (.string s) = some (kl s) := WideMaps.keyOf_string_mk Tryz.underlying9 (by unfold maxLen; omega)
  have hh := mapD_has ts s
  cases hin : inB s ts with
  | true =>
    rw [hin] at hh
    have HE : Hid (inB s ts = true) := hide hin
    clear hin
    go_enter Tryz.func79, Tryz.ntmps79
    go_wp2_with (first | (at_lookup; refine wpList_lookup_own_ok_int _ rfl _ _ 66 rfl 9 3 .i64 lawS Tryz.underlying66 Tryz.underlying3 (zeroI _) B _ _ rfl hm _ _ rfl hkey ?_; intro c hat hwc; rw [hh]) | fail)
    go_ret
    exact ⟨rfl, bl_refl w⟩
  | false =>
    rw [hin] at hh
    have HE : Hid (inB s ts = false) := hide hin
    clear hin
    go_enter Tryz.func79, Tryz.ntmps79
    go_wp2_with (first | (at_lookup; refine wpList_lookup_own_ok_int _ rfl _ _ 66 rfl 9 3 .i64 lawS Tryz.underlying66 Tryz.underlying3 (zeroI _) B _ _ rfl hm _ _ rfl hkey ?_; intro c hat hwc; rw [hh]) | fail)
    refine (Nm.nameI s _ hs).mono ?_
    rintro e w2 ⟨rfl, hb2⟩
    go_wp2
    go_ret
    exact ⟨rfl, hb2⟩

/-- what enter does -/
def EnterPost (B : Nat) (ts : List ByteArray) (s : ByteArray) (w : World) (e : Ending) (w' : World) : Prop :=
  (e = .returned (.bool false) ∧ ¬ (s ∉ ts ∧ Nm.nameOkB s = true) ∧ Below w.heap.size w w') ∨ (e = .returned (.bool true) ∧ (s ∉ ts ∧ Nm.nameOkB s = true) ∧ MapN w' B (ts ++ [s]) ∧ w.grownBy w' (some B))

set_option maxHeartbeats 4000000 in
theorem enterI (B : Nat) (ts : List ByteArray) (s : ByteArray) (w : World) (hm : MapN w B ts) (hs : s.size ≤ 140737488355328) (hd : ts.Nodup) (hl : ts.length ≤ 1000) :
    Calls Tryz.prog 53 #[.map (some B), .string s] w fun e w' => EnterPost B ts s w e w' := by
  have hkey : keyOf Tryz.prog 9 (.string s) = some (kl s) := WideMaps.keyOf_string_mk Tryz.underlying9 (by unfold maxLen; omega)
  have hsz := hide (mapD_size ts hd)
  go_enter Tryz.func53, Tryz.ntmps53
  go_wp2_with fail
  refine (isFreeI B ts s w hm hs).mono ?_
  rintro e w2 ⟨rfl, hb2⟩
  have hm2 := hm.below hb2
  by_cases hf : (!inB s ts && Nm.nameOkB s) = true
  · have HF : Hid (s ∉ ts ∧ Nm.nameOkB s = true) := hide (by rw [Bool.and_eq_true, Bool.not_eq_true', Bool.eq_false_iff] at hf; exact ⟨fun h => hf.1 ((inB_iff s ts).2 h), hf.2⟩)
    rw [hf]
    clear hf
    have HG := hide (grown_of_below hb2)
    clear hb2 hm
    go_wp2_with (first
      | (at_len; refine wpList_len_own _ rfl _ 66 rfl 9 3 Tryz.underlying66 (plainElem (H := Unit) Tryz.prog 3) B _ _ rfl hm2 ?_; rw [hsz.out])
      | (at_mapUpdate; refine wpList_mapUpdate_own _ rfl _ _ _ 66 rfl 9 3 lawS Tryz.underlying66 (plainElem (H := Unit) Tryz.prog 3) B _ _ rfl hm2 (by unfold maxLen; omega) _ _ _ rfl rfl hkey _ [] (plainElem_int Tryz.underlying3 (WalkArith.wf_i64 (by omega))) ?_; intro w3 hown3 hgrow3)
      | fail)
    go_ret
    refine .inr ⟨rfl, HF.out, ?_, World.grownBy.trans (grown_any HG.out) hgrow3⟩
    show World.ownsMap _ _ _ _ _ _ _
    rw [mapD_snoc, List.length_append]
    exact hown3
  · have HF : Hid (¬ (s ∉ ts ∧ Nm.nameOkB s = true)) := hide (fun h => hf (by rw [inB_no h.1, h.2]; rfl))
    rw [Bool.eq_false_iff.2 hf]
    clear hf
    go_wp2
    go_ret
    exact .inl ⟨rfl, HF.out, hb2⟩
end Go.Proofs.YtnjaejaibbgkpaaGreat
