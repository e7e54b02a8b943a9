/- The walk of the specification's l04Make. -/
import Derived.Test.YtkfiidldappdcaaMakeS1
import Derived.Deep.RegionLaw
import Derived.Deep.AppendLies
namespace Go.Proofs.Ytkfiidldappdcaa
open Go.RowKit
set_option linter.unusedVariables false

theorem news_one {W : World} {N : Nat} {x : Int} (h : W.cell? ⟨N, 0, none⟩ = some (.int .i64 x)) : ∀ j u, ([Value.int .i64 x] : List Value)[j]? = some u → W.cell? ((⟨N, 0, none⟩ : Addr).add j) = some u := by
  intro j u hu
  cases j with
  | zero => rw [add_lit]; simpa [← (Option.some.inj (by simpa using hu) : Value.int .i64 x = u)] using h
  | succ j => simp at hu
theorem grown_drew {W w' : World} {r : Option Nat} (h : W.drew.grownBy w' r) : W.grownBy w' r := ⟨h.os, h.tape, h.output, h.size, h.block⟩
theorem vok_made (d : Int) (xs : List Int) (h8 : xs.length ≤ 8) : vokB (d.tdiv (gsg d (at8 xs))) (lst8 xs.length (fun j => (at8 xs j).tdiv (gsg d (at8 xs)))) = tlB d (at8 xs) := by
  unfold vokB tlB
  rw [lst8_len, decide_eq_true h8, at8_lst8 _ _ (fun j hj => by rw [at8_ge hj, Int.zero_tdiv])]
  rfl

set_option maxHeartbeats 2000000 in
theorem makeS (a : Option Addr) (cap : Nat) (xs : List Int) (den : Int) (w : World) (hs : Seg w a xs.length cap xs) (h8 : xs.length ≤ 8) (h0 : den ≠ 0) (hd : -1000000000000000 ≤ den ∧ den ≤ 1000000000000000) (hf : ∀ j, j < 8 → -1000000000000000 ≤ at8 xs j ∧ at8 xs j ≤ 1000000000000000) :
    Calls Try.prog 61 #[.slice a xs.length cap, .int .i64 den] w fun e w' => ∃ a' c', e = .returned (.tuple #[.agg #[.int .i64 (tlD den (at8 xs)), .slice a' (tlL xs.length den (at8 xs)).length c'], .bool (tlB den (at8 xs))]) ∧ Own w' w.heap.size a' (tlL xs.length den (at8 xs)).length c' (tlL xs.length den (at8 xs)) ∧ Below w.heap.size w w' := by
  have HB := hide (bl_alloc (bl_refl w) (Obj.cells #[Value.int .i64 0, Value.slice none 0 0] 29))
  have HS := hide (hs.below HB.out)
  have hcl := hs.2.1
  have hcm := hs.2.2.1
  have kr0 : (w.alloc (Obj.cells #[Value.int .i64 0, Value.slice none 0 0] 29)).cell? ⟨w.heap.size, 0, none⟩ = some (Value.int .i64 0) := by go_simp
  have kr1 : (w.alloc (Obj.cells #[Value.int .i64 0, Value.slice none 0 0] 29)).cell? ⟨w.heap.size, 1, none⟩ = some (Value.slice none 0 0) := by go_simp
  have fr0 : (w.alloc (Obj.cells #[Value.int .i64 0, Value.slice none 0 0] 29)).frozen? ⟨w.heap.size, 0, none⟩ = false := by go_simp
  have fr1 : (w.alloc (Obj.cells #[Value.int .i64 0, Value.slice none 0 0] 29)).frozen? ⟨w.heap.size, 1, none⟩ = false := by go_simp
  have zr : w.heap.size < (w.alloc (Obj.cells #[Value.int .i64 0, Value.slice none 0 0] 29)).heap.size := by simp only [World.size_alloc]; omega
  have gp := gsh_pos den (at8 xs) h0
  have gb := (gsh_bd den (at8 xs) 1000000000000000 hd hf 8 (Nat.le_refl _)).2
  have HF := hide hf
  have HD := hide hd
  have H8 := hide h8
  have hg9 : xs.length ≤ 8 := h8
  have H0S := hide hs
  clear hs h0 hf hd h8
  go_enter Try.func61, Try.ntmps61
  go_wp2
  generalize w.alloc (Obj.cells #[Value.int .i64 0, Value.slice none 0 0] 29) = w1 at *
  go_loopw [6, 7] (fun g i wr => ∃ k : Nat, k ≤ xs.length ∧ i = .int .i64 k ∧ g = .int .i64 (gsh den (at8 xs) k) ∧ ∃ m, wr = w1.drewN m) (fun _ i _ => xs.length - (intOf i).toNat)
  case atStart => exact ⟨0, Nat.zero_le _, rfl, rfl, 0, rfl⟩
  case round =>
    obtain ⟨k, hk, rfl, rfl, m, rfl⟩ := hrel
    obtain ⟨g1, g2⟩ := gsh_bd den (at8 xs) 1000000000000000 HD.out HF.out k (by omega)
    by_cases hlt : k < xs.length
    · have hlt' : (k : Int) < (xs.length : Int) := by omega
      rcases HS.out.2.2.2 with hn | ⟨g, o, rfl, hg, hc⟩
      · omega
      have hc1 := hc k hlt
      clear hc
      obtain ⟨f1, f2⟩ := HF.out k (by omega)
      have HG : Hid (gsh den (at8 xs) (k + 1) = (Int.gcd (gsh den (at8 xs) k) (at8 xs k) : Nat)) := hide rfl
      rw [← at8_lt hlt] at hc1
      generalize at8 xs k = x at *
      generalize gsh den (at8 xs) k = gk at *
      go_wp2_with (go_at_call 75; refine (gdS _ _ _ g1 g2 f1 f2).mono ?_; rintro e w2 ⟨rfl, m2, rfl⟩)
      exact ⟨⟨k + 1, by omega, by go_num, by rw [HG.out], m + m2, rfl⟩, by simp [intOf]; omega⟩
    · obtain rfl : k = xs.length := by omega
      have hq := gsh_len den xs hg9
      have HQ := hide hq
      clear hq hlt hk
      have kr0' : (w1.drewN m).cell? ⟨w.heap.size, 0, none⟩ = some (Value.int .i64 0) := kr0
      have kr1' : (w1.drewN m).cell? ⟨w.heap.size, 1, none⟩ = some (Value.slice none 0 0) := kr1
      have fr0' : (w1.drewN m).frozen? ⟨w.heap.size, 0, none⟩ = false := fr0
      have fr1' : (w1.drewN m).frozen? ⟨w.heap.size, 1, none⟩ = false := fr1
      have zr' : w.heap.size < (w1.drewN m).heap.size := zr
      have HB' := hide (below_drewN HB.out m)
      have HS' := hide (HS.out.below (below_drewN (bl_refl w1) m))
      clear kr0 kr1 fr0 fr1 zr HB HS
      generalize w1.drewN m = w2 at *
      go_wp2_with fail
      refine (absSB _ _ g1 g2).mono ?_
      rw [HQ.out]
      rintro e w3 ⟨rfl, hw⟩
      subst w3
      obtain ⟨G, hGe, HGG⟩ : ∃ G, (if den < 0 then -(gsh den (at8 xs) 8) else gsh den (at8 xs) 8) = G ∧ Hid (gsg den (at8 xs) = G) := ⟨_, rfl, hide rfl⟩
      have hGz : ¬ G = 0 := by rw [← hGe]; split <;> omega
      have hGb : -1000000000000000 ≤ G ∧ G ≤ 1000000000000000 := by rw [← hGe]; split <;> omega
      obtain ⟨hGb1, hGb2⟩ := hGb
      obtain ⟨t1, t2⟩ := tdiv_bd den G 1000000000000000 HD.out
      obtain ⟨d1, d2⟩ := HD.out
      have HTD : Hid (tlD den (at8 xs) = if tlB den (at8 xs) then den.tdiv G else 0) := hide (by rw [← HGG.out]; rfl)
      have HTL : Hid (tlL xs.length den (at8 xs) = if tlB den (at8 xs) then lst8 xs.length (fun j => (at8 xs j).tdiv G) else []) := hide (by rw [← HGG.out]; rfl)
      have HVM : Hid (vokB (den.tdiv G) (lst8 xs.length (fun j => (at8 xs j).tdiv G)) = tlB den (at8 xs)) := hide (by rw [← HGG.out]; exact vok_made den xs hg9)
      clear HGG HQ gp gb g1 g2
      generalize gsh den (at8 xs) 8 = g8 at *
      have hcase : (den < 0 ∧ -g8 = G) ∨ (¬ den < 0 ∧ g8 = G) := by
        by_cases hneg : den < 0
        · rw [if_pos hneg] at hGe; exact .inl ⟨hneg, hGe⟩
        · rw [if_neg hneg] at hGe; exact .inr ⟨hneg, hGe⟩
      clear hGe
      rcases hcase with ⟨hneg, hge⟩ | ⟨hneg, hge⟩
      all_goals
        go_wp2
        clear hge
        have hbA := bl_alloc (bl_refl w2) (Obj.cells #[Value.int .i64 (den.tdiv G), Value.slice none 0 0] 29)
        have kb0 : (w2.alloc (Obj.cells #[Value.int .i64 (den.tdiv G), Value.slice none 0 0] 29)).cell? ⟨w2.heap.size, 0, none⟩ = some (Value.int .i64 (den.tdiv G)) := by go_simp
        have kb1 : (w2.alloc (Obj.cells #[Value.int .i64 (den.tdiv G), Value.slice none 0 0] 29)).cell? ⟨w2.heap.size, 1, none⟩ = some (Value.slice none 0 0) := by go_simp
        have fb1 : (w2.alloc (Obj.cells #[Value.int .i64 (den.tdiv G), Value.slice none 0 0] 29)).frozen? ⟨w2.heap.size, 1, none⟩ = false := by go_simp
        have zb : w2.heap.size < (w2.alloc (Obj.cells #[Value.int .i64 (den.tdiv G), Value.slice none 0 0] 29)).heap.size := by simp only [World.size_alloc]; omega
        have q0 := (hbA.cell (p := ⟨w.heap.size, 0, none⟩) zr').trans kr0'
        have q1 := (hbA.cell (p := ⟨w.heap.size, 1, none⟩) zr').trans kr1'
        have p0 := (hbA.frozen (p := ⟨w.heap.size, 0, none⟩) zr').trans fr0'
        have p1 := (hbA.frozen (p := ⟨w.heap.size, 1, none⟩) zr').trans fr1'
        have HBA := hide (bl_trans HB'.out hbA)
        have HSA := hide (HS'.out.below hbA)
        have HOA := hide (Own.nil (w2.alloc (Obj.cells #[Value.int .i64 (den.tdiv G), Value.slice none 0 0] 29)) (w2.heap.size + 1))
        clear hbA kr0' kr1' fr0' fr1' HB' HS'
        have yw : w.heap.size < w2.heap.size := zr'
        clear zr'
        generalize (w2.alloc (Obj.cells #[Value.int .i64 (den.tdiv G), Value.slice none 0 0] 29)) = w4 at *
        go_loopw [9] (fun i wr => ∃ (k : Nat) (a' : Option Addr) (c' : Nat), k ≤ xs.length ∧ i = .int .i64 k ∧ w2.heap.size < wr.heap.size ∧ wr.cell? ⟨w2.heap.size, 0, none⟩ = some (Value.int .i64 (den.tdiv G)) ∧ wr.cell? ⟨w2.heap.size, 1, none⟩ = some (Value.slice a' k c') ∧ wr.frozen? ⟨w2.heap.size, 1, none⟩ = false ∧ wr.cell? ⟨w.heap.size, 0, none⟩ = some (Value.int .i64 0) ∧ wr.cell? ⟨w.heap.size, 1, none⟩ = some (Value.slice none 0 0) ∧ wr.frozen? ⟨w.heap.size, 0, none⟩ = false ∧ wr.frozen? ⟨w.heap.size, 1, none⟩ = false ∧ Hid (Own wr (w2.heap.size + 1) a' k c' (lst8 k (fun j => (at8 xs j).tdiv G))) ∧ Hid (Seg wr a xs.length cap xs) ∧ Hid (Below w.heap.size w wr)) (fun i _ => xs.length - (intOf i).toNat)
        case atStart => exact ⟨0, none, 0, Nat.zero_le _, rfl, zb, kb0, kb1, fb1, q0, q1, p0, p1, HOA, HSA, HBA⟩
        case round =>
          obtain ⟨k, a', c', hk, rfl, zb, kb0, kb1, fb1, q0, q1, p0, p1, HO, HSg, HBe⟩ := hrel
          by_cases hlt : k < xs.length
          · have hlt' : (k : Int) < (xs.length : Int) := by omega
            rcases HSg.out.2.2.2 with hn | ⟨g, o, rfl, hg, hc⟩
            · omega
            have hc1 := hc k hlt
            clear hc
            rw [← at8_lt hlt] at hc1
            obtain ⟨f1, f2⟩ := HF.out k (by omega)
            obtain ⟨u1, u2⟩ := tdiv_bd (at8 xs k) G 1000000000000000 (HF.out k (by omega))
            have hwr : IntKind.i64.wrap ((at8 xs k).tdiv G) = (at8 xs k).tdiv G := by rw [IntKind.wrap_i64]; omega
            have HSN : Hid (lst8 (k + 1) (fun j => (at8 xs j).tdiv G) = lst8 k (fun j => (at8 xs j).tdiv G) ++ [(at8 xs k).tdiv G]) := hide (lst8_snoc k _)
            generalize at8 xs k = x at *
            go_wp2_with fail
            obtain ⟨i0, hi, hz0, hz1, hz2⟩ := info_parts Try.info3
            have hnewc : (wr.alloc (Obj.cells #[Value.int .i64 (x.tdiv G)] 3)).cell? ⟨wr.heap.size, 0, none⟩ = some (Value.int .i64 (x.tdiv G)) := by go_simp
            have HNW := hide (news_one hnewc)
            have HOW := hide (HO.out.below (bl_alloc (bl_refl wr) (Obj.cells #[Value.int .i64 (x.tdiv G)] 3)))
            have hne : ∀ g, (Value.slice a' k c').ownBlock = some g → w2.heap.size < g ∧ g < wr.heap.size := fun g e => by have := World.ownsRow.lt HO.out g e; omega
            have HKP : Hid (∀ w5, (wr.alloc (Obj.cells #[Value.int .i64 (x.tdiv G)] 3)).grownBy w5 (Value.slice a' k c').ownBlock → (w2.heap.size < w5.heap.size ∧ w5.cell? ⟨w2.heap.size, 0, none⟩ = some (Value.int .i64 (den.tdiv G)) ∧ w5.cell? ⟨w2.heap.size, 1, none⟩ = some (Value.slice a' k c') ∧ w5.frozen? ⟨w2.heap.size, 1, none⟩ = false ∧ w5.cell? ⟨w.heap.size, 0, none⟩ = some (Value.int .i64 0) ∧ w5.cell? ⟨w.heap.size, 1, none⟩ = some (Value.slice none 0 0) ∧ w5.frozen? ⟨w.heap.size, 0, none⟩ = false ∧ w5.frozen? ⟨w.heap.size, 1, none⟩ = false ∧ Hid (Seg w5 (some ⟨g, o, none⟩) xs.length cap xs) ∧ Hid (Below w.heap.size w w5))) := hide (fun w5 hg5 => by
              have hb := bl_alloc (bl_refl wr) (Obj.cells #[Value.int .i64 (x.tdiv G)] 3)
              have hsz := hb.size
              have n1 : some w2.heap.size ≠ (Value.slice a' k c').ownBlock := fun e => by have := hne _ e.symm; omega
              have n2 : some w.heap.size ≠ (Value.slice a' k c').ownBlock := fun e => by have := hne _ e.symm; omega
              have l1 : w2.heap.size < (wr.alloc (Obj.cells #[Value.int .i64 (x.tdiv G)] 3)).heap.size := by omega
              have l2 : w.heap.size < (wr.alloc (Obj.cells #[Value.int .i64 (x.tdiv G)] 3)).heap.size := by omega
              have l3 : w.heap.size < wr.heap.size := by omega
              refine ⟨Nat.lt_of_lt_of_le l1 hg5.size, ?_, ?_, ?_, ?_, ?_, ?_, ?_, hide ?_, hide ?_⟩
              · exact (hg5.cell_far ⟨w2.heap.size, 0, none⟩ l1 n1).trans ((hb.cell (p := ⟨w2.heap.size, 0, none⟩) zb).trans kb0)
              · exact (hg5.cell_far ⟨w2.heap.size, 1, none⟩ l1 n1).trans ((hb.cell (p := ⟨w2.heap.size, 1, none⟩) zb).trans kb1)
              · exact (hg5.frozen_far ⟨w2.heap.size, 1, none⟩ l1 n1).trans ((hb.frozen (p := ⟨w2.heap.size, 1, none⟩) zb).trans fb1)
              · exact (hg5.cell_far ⟨w.heap.size, 0, none⟩ l2 n2).trans ((hb.cell (p := ⟨w.heap.size, 0, none⟩) l3).trans q0)
              · exact (hg5.cell_far ⟨w.heap.size, 1, none⟩ l2 n2).trans ((hb.cell (p := ⟨w.heap.size, 1, none⟩) l3).trans q1)
              · exact (hg5.frozen_far ⟨w.heap.size, 0, none⟩ l2 n2).trans ((hb.frozen (p := ⟨w.heap.size, 0, none⟩) l3).trans p0)
              · exact (hg5.frozen_far ⟨w.heap.size, 1, none⟩ l2 n2).trans ((hb.frozen (p := ⟨w.heap.size, 1, none⟩) l3).trans p1)
              · exact (HSg.out.below hb).grownLow H0S.out hg5 (fun q e => by have := hne q e; omega)
              · exact (bl_trans HBe.out hb).grown hg5 (bl_trans HBe.out hb).size (fun q e => by have := hne q e; omega))
            clear hne hnewc
            go_region_law ((refine step_append_lies _ (by rfl) _ _ 27 (by rfl) (w2.heap.size + 1) 3 i0 (.int .i64 0) 1 8 Try.underlying27 hi hz0 hz1 hz2 rfl (by decide) (.slice a' k c') k ((lst8 k (fun j => (at8 xs j).tdiv G)).map lim) (by rfl) HOW.out ⟨wr.heap.size, 0, none⟩ 1 1 [.int .i64 (x.tdiv G)] (by rfl) rfl HNW.out (by intro u hu; simp at hu; subst hu; rfl) (by omega) (by unfold maxLen; omega) (by omega) (by simp; omega) (wr.heap.size + 1) (by simp) ?_; intro g5 cap5 w5 hown5 hgrow5 hat5 hlt5; obtain ⟨y0, y1, y2, y3, y4, y5, y6, y7, y8, y9⟩ := HKP.out w5 (grown_drew hgrow5); have HO5 := hide hown5; clear hown5 hgrow5 hat5 hlt5))
            all_goals
              have HO6 : Hid (Own w5 (w2.heap.size + 1) (some ⟨g5, 0, none⟩) (k + 1) cap5 (lst8 (k + 1) (fun j => (at8 xs j).tdiv G))) := hide (by rw [HSN.out]; unfold Own; rw [List.map_append]; exact HO5.out)
              go_wp2
              refine ⟨⟨k + 1, some ⟨g5, 0, none⟩, cap5, by omega, by go_num, by simp; exact y0, by go_simp, by go_simp, by go_simp, by go_simp, by go_simp, by go_simp, by go_simp, hide ?_, hide ?_, hide ?_⟩, by simp [intOf]; omega⟩
              · exact (HO6.out.setCell (p := ⟨w2.heap.size, 1, none⟩) (Nat.lt_succ_self _) _)
              · exact (y8.out.setOff (p := ⟨w2.heap.size, 1, none⟩) (fun _ g' o' s' e => by cases e; have := H0S.out.lt (by omega) rfl; dsimp only; omega) _)
              · exact y9.out.setCell (p := ⟨w2.heap.size, 1, none⟩) (by dsimp only; omega) _
          · obtain rfl : k = xs.length := by omega
            have HLE : Hid ((lst8 xs.length (fun j => (at8 xs j).tdiv G)).length = xs.length) := hide (lst8_len _ _)
            have HSL : Hid (Seg wr a' (lst8 xs.length (fun j => (at8 xs j).tdiv G)).length c' (lst8 xs.length (fun j => (at8 xs j).tdiv G))) := hide (by rw [HLE.out]; exact HO.out.seg)
            have HOK := hide (fun (w : World) h => vecOkS (den.tdiv G) a' c' (lst8 xs.length (fun j => (at8 xs j).tdiv G)) w h)
            rw [HLE.out, HVM.out] at HOK
            rw [HLE.out] at HSL
            have zw : w.heap.size < wr.heap.size := by omega
            clear hlt hk HVM
            go_wp2_with fail
            refine (HOK.out _ HSL.out).mono ?_
            rintro e w5 ⟨rfl, hb⟩
            replace kb0 := (hb.cell (p := ⟨w2.heap.size, 0, none⟩) zb).trans kb0
            replace kb1 := (hb.cell (p := ⟨w2.heap.size, 1, none⟩) zb).trans kb1
            replace q0 := (hb.cell (p := ⟨w.heap.size, 0, none⟩) zw).trans q0
            replace q1 := (hb.cell (p := ⟨w.heap.size, 1, none⟩) zw).trans q1
            replace p0 := (hb.frozen (p := ⟨w.heap.size, 0, none⟩) zw).trans p0
            replace p1 := (hb.frozen (p := ⟨w.heap.size, 1, none⟩) zw).trans p1
            replace HO := hide (HO.out.below hb)
            replace HBe := hide (bl_trans HBe.out hb)
            clear hb HSL HOK HSg
            cases ht : tlB den (at8 xs) with
            | false =>
              have h1 : Hid (tlD den (at8 xs) = 0) := hide (by rw [HTD.out, ht]; rfl)
              have h2 : Hid (tlL xs.length den (at8 xs) = []) := hide (by rw [HTL.out, ht]; rfl)
              have h3 := hide ht
              clear ht HTD HTL
              go_wp2
              rw [h1.out, h2.out, h3.out]
              exact bodyPost_ret (v := .tuple #[.agg #[.int .i64 0, .slice none 0 0], .bool false]) (by simp [results, Try.results61, go_sem, *]) rfl ⟨none, 0, rfl, Own.nil _ _, (HBe.out.setCell (p := ⟨w.heap.size, 0, none⟩) (Nat.le_refl _) _).setCell (p := ⟨w.heap.size, 1, none⟩) (Nat.le_refl _) _⟩
            | true =>
              have h1 : Hid (tlD den (at8 xs) = den.tdiv G) := hide (by rw [HTD.out, ht]; rfl)
              have h2 : Hid (tlL xs.length den (at8 xs) = lst8 xs.length (fun j => (at8 xs j).tdiv G)) := hide (by rw [HTL.out, ht]; rfl)
              have h3 := hide ht
              clear ht HTD HTL
              go_wp2
              rw [h1.out, h2.out, h3.out, HLE.out]
              refine bodyPost_ret (v := .tuple #[.agg #[.int .i64 (den.tdiv G), .slice a' xs.length c'], .bool true]) (by simp [results, Try.results61, go_sem, *]) rfl ⟨a', c', rfl, ?_, ?_⟩
              · exact ((HO.out.setCell (p := ⟨w.heap.size, 0, none⟩) (by dsimp only; omega) _).setCell (p := ⟨w.heap.size, 1, none⟩) (by dsimp only; omega) _).mono (by omega)
              · exact (HBe.out.setCell (p := ⟨w.heap.size, 0, none⟩) (Nat.le_refl _) _).setCell (p := ⟨w.heap.size, 1, none⟩) (Nat.le_refl _) _
end Go.Proofs.Ytkfiidldappdcaa
