/- The walk of the exact law of Spell. -/
import Derived.Test.YtabdmnofdpfjkaaSq
namespace Go.Proofs.Ytabdmnofdpfjkaa
open Go.RowKit
set_option linter.unusedVariables false

set_option maxHeartbeats 4000000 in
theorem walk3 (a : Option Addr) (n cap : Nat) (ts : List (Int × ByteArray × Int)) (w : World) (hs : TSeg w a n cap ts) :
    Calls Try.prog 3 #[.slice a n cap] w fun e w' => e = .returned (.bool true) ∧ Below w.heap.size w w' := by
  have hcap := hs.2.1
  have hcm := hs.2.2.1
  have HS := hide hs
  clear hs
  go_enter Try.func3, Try.ntmps3
  go_wp2_with fail
  refine (szTS a n cap ts 1048576 _ HS.out (by omega) (by omega)).mono ?_
  rintro e w1 ⟨rfl, hb1⟩
  replace HS := hide (HS.out.below hb1)
  have HB := hide hb1
  clear hb1
  by_cases hbig : (1048576 : Int) < n + tot ts
  · have e1 : szr 1048576 n (tot ts) = -1 := by unfold szr; rw [if_pos hbig]
    rw [e1]
    clear e1
    go_wp2
    go_ret
    exact ⟨rfl, HB.out⟩
  have e1 : szr 1048576 n (tot ts) = 1048576 - (n + tot ts) := by unfold szr; rw [if_neg hbig]
  have hsum : n + tot ts ≤ 1048576 := by omega
  have HSUM := hide hsum
  rw [e1]
  have hnl : n ≤ 1048576 := by omega
  have hpos : ¬ (1048576 : Int) - (n + tot ts) < 0 := by omega
  clear e1 hbig hsum
  go_wp2_with fail
  refine (toTS a n cap ts _ HS.out hnl).mono ?_
  rintro e w2 ⟨a1, c1, rfl, s1, hb⟩
  have S1 := hide s1
  replace HS := hide (HS.out.below hb)
  replace HB := hide (bl_trans HB.out hb)
  clear s1 hb
  go_wp2_with fail
  refine (spellS a1 n c1 ts _ S1.out HSUM.out).mono ?_
  rintro e w3 ⟨rfl, hb⟩
  replace HS := hide (HS.out.below hb)
  replace HB := hide (bl_trans HB.out hb)
  clear hb S1
  go_wp2_with fail
  refine (toTS a n cap ts _ HS.out hnl).mono ?_
  rintro e w4 ⟨a2, c2, rfl, s2, hb⟩
  have S2 := hide s2
  replace HS := hide (HS.out.below hb)
  replace HB := hide (bl_trans HB.out hb)
  clear s2 hb
  go_wp2_with fail
  refine (spellI a2 n c2 ts _ S2.out HSUM.out).mono ?_
  rintro e w5 ⟨rfl, hb⟩
  replace HS := hide (HS.out.below hb)
  replace S2 := hide (S2.out.below hb)
  replace HB := hide (bl_trans HB.out hb)
  clear hb
  generalize (spk ts n).toArray = out at *
  go_wp2_with fail
  refine (toTS a n cap ts _ HS.out hnl).mono ?_
  rintro e w6 ⟨a3, c3, rfl, s3, hb⟩
  have S3 := hide s3
  replace S2 := hide (S2.out.below hb)
  replace HB := hide (bl_trans HB.out hb)
  clear s3 hb
  go_wp2_with fail
  refine (eqTS a2 a3 n c2 c3 ts _ S2.out S3.out).mono ?_
  rintro e w7 ⟨rfl, hb⟩
  replace HB := hide (bl_trans HB.out hb)
  clear hb
  go_wp2
  go_ret
  exact ⟨rfl, HB.out⟩
end Go.Proofs.Ytabdmnofdpfjkaa
