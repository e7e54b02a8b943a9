/- Both VarAt: where the first measure with a name stands. -/
import Derived.Test.YtbopgbpnbonkeaaVs
import Derived.WideShapes
namespace Go.Proofs.Ytbopgbpnbonkeaa
open Go.RowKit
set_option linter.unusedVariables false
set_option maxRecDepth 20000

theorem txt_ne {a b : ByteArray} (h : ¬ a = b) : (a.toList == b.toList) = false := by
  rw [beq_eq_false_iff_ne]
  intro e
  rw [ByteArray.toList_eq, ByteArray.toList_eq] at e
  exact h (Go.WideShapes.bytes_inj e)
theorem txt_eq {a b : ByteArray} (h : a = b) : (a.toList == b.toList) = true := by rw [h]; simp
/-- the name of a record -/
def nmOf : List Lf → ByteArray
  | .t s :: _ => s
  | _ => ⟨#[]⟩
/-- the first place of a name, from k on -/
def vAt (nm : ByteArray) : List (List Lf) → Nat → Int
  | [], _ => -1
  | r :: rs, k => if nmOf r = nm then k else vAt nm rs (k + 1)
theorem vAt_step (nm : ByteArray) (rs : List (List Lf)) (k : Nat) (h : k < rs.length) : vAt nm (rs.drop k) k = if nmOf rs[k] = nm then (k : Int) else vAt nm (rs.drop (k + 1)) (k + 1) := by
  rw [List.drop_eq_getElem_cons h]; rfl
theorem vAt_end (nm : ByteArray) (rs : List (List Lf)) (k : Nat) (h : rs.length ≤ k) : vAt nm (rs.drop k) k = -1 := by
  rw [List.drop_eq_nil_of_le h]; rfl

set_option maxHeartbeats 4000000 in
theorem varAtS (a : Option Addr) (n cap : Nat) (X : Nat → Prop) (rs : List (List Lf)) (nm : ByteArray) (w : World) (hs : RSeg w X 7 a n cap rs) (hsh : ∀ r ∈ rs, Sh7 r) :
    Calls Try.prog 10 #[.slice a n cap, .string nm] w fun e w' => e = .returned (.int .i64 (vAt nm rs 0)) ∧ Below w.heap.size w w' := by
  have hxl := hs.1
  have hcap := hs.2.1
  have hcm := hs.2.2.1
  have HS := hide hs
  clear hs
  go_enter Try.func10, Try.ntmps10
  go_wp2
  go_loopw [5] (fun i wr => ∃ k : Nat, k ≤ n ∧ i = .int .i64 k ∧ Hid (vAt nm rs 0 = vAt nm (rs.drop k) k) ∧ Hid (Below w.heap.size w wr)) (fun i _ => n - (intOf i).toNat)
  case atStart => exact ⟨0, Nat.zero_le _, rfl, hide rfl, hide (bl_refl w)⟩
  case round =>
    obtain ⟨k, hk, rfl, hv, hb⟩ := hrel
    by_cases hlt : k < n
    · have hlt' : (k : Int) < (n : Int) := by omega
      have hkx : k < rs.length := by omega
      obtain ⟨g, o, rfl, hg, hrec⟩ := (HS.out.below hb.out).at hkx
      have hst := vAt_step nm rs k hkx
      obtain ⟨nm1, n1, xs, m1, ys, den, ps, er⟩ := hsh rs[k] (List.getElem_mem _)
      rw [er] at hrec hst
      rw [show nmOf [.t nm1, .b n1, .l xs, .b m1, .l ys, .i den, .p ps] = nm1 from rfl] at hst
      clear er
      obtain ⟨a1, c1, a2, c2, a3, c3, t0, t1, t2, t3, t4, t5, t6, sg1, sg2, sg3, _⟩ := open7 hrec
      clear hrec sg1 sg2 sg3
      by_cases hq : nm1 = nm
      · have HV : Hid (vAt nm rs 0 = k) := hide (by rw [hv.out, hst, if_pos hq])
        clear hst
        go_wp2
        go_ret
        exact ⟨ret_int HV.out.symm, hb.out⟩
      · have HV : Hid (vAt nm rs 0 = vAt nm (rs.drop (k + 1)) (k + 1)) := hide (by rw [hv.out, hst, if_neg hq])
        clear hst
        have hq2 := txt_ne hq
        clear hq
        go_wp2
        exact ⟨⟨k + 1, by omega, by go_num, HV, hb⟩, by simp [intOf]; omega⟩
    · obtain rfl : k = n := by omega
      go_wp2
      go_ret
      exact ⟨ret_int (by rw [hv.out, vAt_end nm rs k (by omega)]), hb.out⟩

set_option maxHeartbeats 4000000 in
theorem varAtI (a : Option Addr) (n cap : Nat) (X : Nat → Prop) (rs : List (List Lf)) (nm : ByteArray) (w : World) (hs : RSeg w X 7 a n cap rs) (hsh : ∀ r ∈ rs, Sh7 r) :
    Calls Try.prog 11 #[.slice a n cap, .string nm] w fun e w' => e = .returned (.int .i64 (vAt nm rs 0)) ∧ Below w.heap.size w w' := by
  have hxl := hs.1
  have hcap := hs.2.1
  have hcm := hs.2.2.1
  have HS := hide hs
  clear hs
  go_enter Try.func11, Try.ntmps11
  go_wp2
  go_loopw [9] (fun i wr => ∃ k : Nat, k ≤ n ∧ i = .int .i64 k ∧ Hid (vAt nm rs 0 = vAt nm (rs.drop k) k) ∧ Hid (Below w.heap.size w wr)) (fun i _ => n - (intOf i).toNat)
  case atStart => exact ⟨0, Nat.zero_le _, rfl, hide rfl, hide (bl_refl w)⟩
  case round =>
    obtain ⟨k, hk, rfl, hv, hb⟩ := hrel
    by_cases hlt : k < n
    · have hlt' : (k : Int) < (n : Int) := by omega
      have hkx : k < rs.length := by omega
      obtain ⟨g, o, rfl, hg, hrec⟩ := (HS.out.below hb.out).at hkx
      have hst := vAt_step nm rs k hkx
      obtain ⟨nm1, n1, xs, m1, ys, den, ps, er⟩ := hsh rs[k] (List.getElem_mem _)
      rw [er] at hrec hst
      rw [show nmOf [.t nm1, .b n1, .l xs, .b m1, .l ys, .i den, .p ps] = nm1 from rfl] at hst
      clear er
      obtain ⟨a1, c1, a2, c2, a3, c3, t0, t1, t2, t3, t4, t5, t6, sg1, sg2, sg3, _⟩ := open7 hrec
      clear hrec sg1 sg2 sg3
      by_cases hq : nm1 = nm
      · have HV : Hid (vAt nm rs 0 = k) := hide (by rw [hv.out, hst, if_pos hq])
        clear hst
        go_wp2
        go_ret
        exact ⟨ret_int HV.out.symm, hb.out.alloc hb.out.size _⟩
      · have HV : Hid (vAt nm rs 0 = vAt nm (rs.drop (k + 1)) (k + 1)) := hide (by rw [hv.out, hst, if_neg hq])
        clear hst
        have hq2 := txt_ne hq
        clear hq
        go_wp2
        exact ⟨⟨k + 1, by omega, by go_num, HV, hide (hb.out.alloc hb.out.size _)⟩, by simp [intOf]; omega⟩
    · obtain rfl : k = n := by omega
      go_wp2
      go_ret
      exact ⟨ret_int (by rw [hv.out, vAt_end nm rs k (by omega)]), hb.out⟩
end Go.Proofs.Ytbopgbpnbonkeaa
