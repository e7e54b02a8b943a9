/- The walk of the exact law of VarAt. -/
import Derived.Test.YtbopgbpnbonkeaaVa
namespace Go.Proofs.Ytbopgbpnbonkeaa
open Go.RowKit
set_option linter.unusedVariables false
set_option maxRecDepth 20000

set_option maxHeartbeats 4000000 in
theorem walkVarAt (a : Option Addr) (n cap : Nat) (rs : List (List Lf)) (nm : ByteArray) (w : World) (hs : RSeg w (fun _ => True) 7 a n cap rs) (hsh : ∀ r ∈ rs, Sh7 r) (hnm : nm.size ≤ 9223372036854775807) :
    Calls Try.prog 4 #[.slice a n cap, .string nm] w fun e w' => e = .returned (.bool true) ∧ Below w.heap.size w w' := by
  have HS := hide hs
  have hn := hs.le
  have hxl := hs.1
  clear hs
  by_cases hbig : (1048576 : Int) < (nm.size : Int)
  · go_enter Try.func4, Try.ntmps4
    go_wp2
    go_ret
    exact ⟨rfl, bl_refl w⟩
  go_enter Try.func4, Try.ntmps4
  go_wp2_with fail
  refine (szVarS a n cap _ rs 1048576 _ HS.out hsh (by omega) (by omega)).mono ?_
  rintro e w1 ⟨rfl, hb1⟩
  have HB := hide hb1
  clear hb1
  by_cases hz : (1048576 : Int) < ((n + rtot rs : Nat) : Int)
  · have HE : Hid (rleft 1048576 (n + rtot rs) = -1) := hide (by unfold rleft; rw [if_pos hz])
    rw [HE.out]
    go_wp2
    go_ret
    exact ⟨rfl, HB.out⟩
  have HE : Hid (rleft 1048576 (n + rtot rs) = 1048576 - ((n + rtot rs : Nat) : Int)) := hide (by unfold rleft; rw [if_neg hz])
  have ht : rtot rs ≤ 1048576 := by omega
  have hn2 : n ≤ 1048576 := by omega
  have hz0 : ¬ 1048576 - ((n + rtot rs : Nat) : Int) < 0 := by omega
  rw [HE.out]
  generalize hgz : ((n + rtot rs : Nat) : Int) = z at *
  clear hgz hz HE
  go_wp2_with fail
  refine (toVarS a n cap _ rs _ (HS.out.below HB.out) hsh hn2 ht).mono ?_
  rintro e w2 ⟨g1, rfl, hm1, hb2⟩
  have M1 := hide (hm1.seg hxl hn HS.out.2.2.2.1)
  replace HB := hide (bl_trans HB.out hb2)
  clear hm1 hb2
  go_wp2_with fail
  refine (varAtS _ n n _ rs nm _ M1.out hsh).mono ?_
  rintro e w3 ⟨rfl, hb3⟩
  replace HB := hide (bl_trans HB.out hb3)
  clear M1 hb3
  go_wp2_with fail
  refine (toVarS a n cap _ rs _ (HS.out.below HB.out) hsh hn2 ht).mono ?_
  rintro e w4 ⟨g2, rfl, hm2, hb4⟩
  have M2 := hide (hm2.seg hxl hn HS.out.2.2.2.1)
  replace HB := hide (bl_trans HB.out hb4)
  clear hm2 hb4
  go_wp2_with fail
  refine (varAtI _ n n _ rs nm _ M2.out hsh).mono ?_
  rintro e w5 ⟨rfl, hb5⟩
  replace HB := hide (bl_trans HB.out hb5)
  replace M2 := hide (M2.out.below hb5)
  clear hb5
  generalize vAt nm rs 0 = V at *
  go_wp2_with fail
  refine (toVarS a n cap _ rs _ (HS.out.below HB.out) hsh hn2 ht).mono ?_
  rintro e w6 ⟨g3, rfl, hm3, hb6⟩
  have M3 := hide (hm3.seg hxl hn HS.out.2.2.2.1)
  replace HB := hide (bl_trans HB.out hb6)
  replace M2 := hide (M2.out.below hb6)
  clear hm3 hb6
  go_wp2_with fail
  refine (eqVarS _ _ n n n _ _ rs _ M2.out M3.out hsh).mono ?_
  rintro e w7 ⟨rfl, hb7⟩
  replace HB := hide (bl_trans HB.out hb7)
  clear hb7
  go_wp2
  go_ret
  exact ⟨rfl, HB.out⟩
end Go.Proofs.Ytbopgbpnbonkeaa
