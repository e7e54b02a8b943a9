/- The walks of timesLimb and guessLimb: a list of limbs times one limb in new memory; a quotient's limb guessed from the ends. -/
import Derived.Test.YtbopgbpnbonkeaaTimes
import Derived.Test.YtbopgbpnbonkeaaSum
import Derived.Test.YtbopgbpnbonkeaaShortI
import Derived.Test.YtbopgbpnbonkeaaDivN
namespace Go.Proofs.Ytbopgbpnbonkeaa
open Go.RowKit
set_option linter.unusedVariables false

theorem min_one {X : Int} {D : Nat} (e : X = (D : Int)) (h : 4294967295 < X) : 4294967295 = ((min D 4294967295 : Nat) : Int) := by omega
theorem min_two {X : Int} {D : Nat} (e : X = (D : Int)) (h : X ≤ 4294967295) : X % 4294967296 = ((min D 4294967295 : Nat) : Int) := by omega
theorem tl_val {f n c : Nat} {xs zs ys : List Nat} (hn : n = xs.length) (hy : Num.nat (ys.take n) = 0) (h : TSo f ys xs zs n c) : Num.nat (zs ++ [c]) = Num.nat xs * f := by
  obtain ⟨h1, h2, h3, h4⟩ := h
  rw [Num.nat_append, h1]
  rw [show Num.nat [c] = c by simp [Num.nat]]
  rw [hy, List.take_of_length_le (by omega), Nat.mul_comm f] at h4
  omega

set_option maxHeartbeats 4000000 in
set_option maxRecDepth 20000 in
theorem tlimbI (a : Option Addr) (n ca f : Nat) (xs : List Nat) (w : World) (ha : Seg w a n ca xs) (hn : n ≤ 1000000) (hf : f < 4294967296) :
    Calls Try.prog 92 #[.slice a n ca, .int .u32 f] w fun e w' => ∃ zs, e = .returned (.slice (some ⟨w.heap.size, 0, none⟩) (n + 1) (n + 1)) ∧ Blk w' w.heap.size zs ∧ zs.length = n + 1 ∧ Num.nat zs = Num.nat xs * f ∧ Below w.heap.size w w' := by
  obtain ⟨i0, hi, hz0, hz1, hz2⟩ := info_parts Try.info68
  obtain rfl := ha.1
  have hca := ha.2.1
  have hcm := ha.2.2.1
  have HA := hide ha
  clear ha
  go_enter Try.func92, Try.ntmps92
  go_wp2_with (at_make; refine wpList_make_full _ rfl _ _ 32 rfl w.heap.size 68 i0 (.int .u32 0) 1 Try.underlying32 hi hz0 hz1 _ _ _ _ (xs.length + 1) rfl rfl (by push_cast; rfl) (by push_cast; rfl) (by rw [hz2]; omega) (by unfold maxLen; omega) (Nat.le_refl _) ?_; intro w3 hown hgrow; have HZ3 := hide ((bl_refl w).grown hgrow (Nat.le_refl _) (by simp)); have B3 := hide (own_made2 hown).blk; clear hown hgrow)
  have hl3 := HZ3.out.size
  refine (timesI f w.heap.size 0 (xs.length + 1) (xs.length + 1) (List.replicate (xs.length + 1) 0) a xs.length ca xs _ hf B3.out (by simp) (Nat.le_refl _) (by omega) (by omega) (HA.out.below HZ3.out) (fun hp gb ob s e => by have := seg_low HA.out hp e; omega)).mono ?_
  rintro e w5 ⟨zs, c, hT, rfl, hB5, hg5⟩
  have HV := hide (tl_val (n := xs.length) rfl (by rw [List.drop_zero, List.take_replicate]; exact Num.nat_replicate _) hT)
  have HL : Hid ((zs ++ [c]).length = xs.length + 1) := hide (by rw [List.length_append, hT.1]; rfl)
  have HB5 : Hid (Blk w5 w.heap.size (zs ++ [c])) := hide (by
    have := hB5
    rw [List.take_zero, List.nil_append, List.drop_eq_nil_of_le (by simp), List.append_nil] at this
    exact this)
  have HZ5 := hide (HZ3.out.grown hg5 HZ3.out.size (fun j e => by cases e; exact Nat.le_refl _))
  clear hT hB5 hg5
  go_wp2
  go_ret
  exact ⟨_, rfl, HB5.out, HL.out, HV.out, HZ5.out⟩

set_option maxHeartbeats 4000000 in
set_option maxRecDepth 20000 in
theorem guessI (a b : Option Addr) (n ca cb : Nat) (ps ds : List Nat) (w : World) (ha : Seg w a (n + 2) ca ps) (hb : Seg w b (n + 1) cb ds) (hn : n ≤ 1000000) (t p q : Nat) (ht : ds[n]? = some t) (hp : ps[n + 1]? = some p) (hq : ps[n]? = some q) (h0 : t ≠ 0) :
    Calls Try.prog 93 #[.slice a (n + 2) ca, .slice b (n + 1) cb] w fun e w' => e = .returned (.int .u32 ((min ((p * 4294967296 + q) / t) 4294967295 : Nat) : Int)) ∧ ∃ m, w' = w.drewN m := by
  obtain ⟨h1, hp⟩ := List.getElem?_eq_some_iff.1 hp
  obtain ⟨h2, hq⟩ := List.getElem?_eq_some_iff.1 hq
  obtain ⟨h3, ht⟩ := List.getElem?_eq_some_iff.1 ht
  have hca := ha.2.1
  have hcm := ha.2.2.1
  have hcb := hb.2.1
  have hcbm := hb.2.2.1
  have hps := Num.small_at ha.2.2.2.1 h1
  have hqs := Num.small_at ha.2.2.2.1 h2
  have hts := Num.small_at hb.2.2.2.1 h3
  obtain ⟨ga, oa, rfl, hga, hc1⟩ := seg_cell ha (n + 1) h1
  obtain ⟨_, _, e, _, hc2⟩ := seg_cell ha n h2
  cases e
  obtain ⟨gb, ob, rfl, hgb, hc3⟩ := seg_cell hb n h3
  rw [hp] at hps hc1
  rw [hq] at hqs hc2
  rw [ht] at hts hc3
  clear hp hq ht h1 h2 h3 ha hb
  have hor := or32' (q : Int) (p : Int) (by omega) (by omega) (by omega) (by omega)
  have htz : ((t : Int) == 0) = false := by rw [beq_eq_false_iff_ne]; omega
  have E1 : Hid (((p : Int) * 4294967296 + (q : Int)) / (t : Int) = (((p * 4294967296 + q) / t : Nat) : Int)) := hide (by rw [Int.natCast_ediv, Int.natCast_add, Int.natCast_mul]; rfl)
  go_enter Try.func93, Try.ntmps93
  go_wp2_with fail
  go_quiet (fail)
  go_wp2
  all_goals
    go_ret
    refine ⟨ret_int ?_, nq, rfl⟩
    have e := E1.out
    first | exact min_one e (by assumption) | exact min_two e (by assumption)
end Go.Proofs.Ytbopgbpnbonkeaa
