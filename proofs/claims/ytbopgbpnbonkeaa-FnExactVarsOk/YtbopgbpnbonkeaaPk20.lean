/- My texts Vok, VokS, VokI, LawVarsOk, in this order. -/
import Derived.Test.YtbopgbpnbonkeaaVk
import Derived.Test.YtbopgbpnbonkeaaVa
import Derived.Test.YtbopgbpnbonkeaaPk02
import Derived.Test.YtbopgbpnbonkeaaPk05
/- Both VarsOk: whether a list of variables is right. -/
namespace Go.Proofs.Ytbopgbpnbonkeaa
open Go.RowKit
set_option linter.unusedVariables false
set_option maxRecDepth 20000

/-- one of them, without its name -/
def varB (r : List Lf) (k : Int) : Bool := match r with
  | [.t _, .b n, .l xs, .b m, .l ys, .i den, .p ps] => aboveB n xs m ys && vokB7 den ps k
  | _ => false
/-- some of the first k are right, their names too, and no name is told twice -/
def Fine (rs : List (List Lf)) (n : Int) (k : Nat) : Prop := ∀ i (hi : i < rs.length), i < k → varB rs[i] n = true ∧ Nm.nameOkB (nmOf rs[i]) = true ∧ ∀ j (hj : j < i), nmOf (rs[j]'(by omega)) ≠ nmOf rs[i]
def VarsP (rs : List (List Lf)) (n : Int) : Prop := rs.length ≤ 8 ∧ 0 ≤ n ∧ n ≤ 8 ∧ Fine rs n rs.length
theorem vAt_le (nm : ByteArray) : ∀ (rs : List (List Lf)) (j k : Nat) (hk : k < rs.length), nmOf rs[k] = nm → vAt nm rs j ≤ ((j + k : Nat) : Int)
  | [], _, _, hk, _ => by simp at hk
  | r :: rs, j, 0, _, h => by
    simp only [List.getElem_cons_zero] at h
    simp only [vAt, h, if_true]; omega
  | r :: rs, j, k + 1, hk, h => by
    simp only [List.getElem_cons_succ] at h
    simp only [vAt]
    split
    · omega
    · have := vAt_le nm rs (j + 1) k (by simpa using hk) h; omega
theorem vAt_skip (nm : ByteArray) (rs : List (List Lf)) : ∀ (m : Nat), m ≤ rs.length → (∀ j (hj : j < m) (hl : j < rs.length), nmOf rs[j] ≠ nm) → vAt nm rs 0 = vAt nm (rs.drop m) m
  | 0, _, _ => rfl
  | m + 1, hm, h => by
    rw [vAt_skip nm rs m (by omega) (fun j hj hl => h j (by omega) hl), vAt_step nm rs m (by omega), if_neg (h m (by omega) (by omega))]
/-- it stands at its own place just where no one ahead has its name -/
theorem vAt_own (rs : List (List Lf)) (i : Nat) (hi : i < rs.length) : vAt (nmOf rs[i]) rs 0 = (i : Int) ↔ ∀ j (hj : j < i), nmOf (rs[j]'(by omega)) ≠ nmOf rs[i] := by
  constructor
  · intro h j hj e
    have := vAt_le (nmOf rs[i]) rs 0 j (by omega) e
    omega
  · intro h
    rw [vAt_skip (nmOf rs[i]) rs i (by omega) (fun j hj _ => h j hj), vAt_step _ rs i hi, if_pos rfl]

/-- a yes or no -/
def Tells (P : Prop) (e : Ending) : Prop := ∃ b : Bool, e = .returned (.bool b) ∧ (b = true ↔ P)
theorem tell_no {P : Prop} (h : ¬ P) : Tells P (.returned (.bool false)) := ⟨false, rfl, fun e => (nomatch e), fun e => absurd e h⟩
theorem tell_yes {P : Prop} (h : P) : Tells P (.returned (.bool true)) := ⟨true, rfl, fun _ => h, fun _ => rfl⟩
/-- one name of a list is none, or comes again -/
def Clean (ts : List ByteArray) (k : Nat) : Prop := ∀ i (hi : i < ts.length), i < k → Nm.nameOkB ts[i] = true ∧ ∀ j (hj : j < i), ts[j]'(by omega) ≠ ts[i]
theorem row_sseg {W : World} {base : Nat} {v : Value} {ts : List ByteArray} (h : W.ownsRow base 9 1 v ts.length (ts.map Value.string)) (hs : ∀ t ∈ ts, t.size ≤ 9223372036854775807) : ∃ a c, v = .slice a ts.length c ∧ SSeg W a ts.length c ts := by
  rcases h.2 with ⟨h1, h2⟩ | ⟨g, cap', cur, hv, hg, hh, hn, hc, _⟩
  · subst h1
    have h2' : ts.length = 0 := by omega
    rw [h2']
    exact ⟨none, 0, rfl, h2', Nat.le_refl _, by omega, hs, .inl rfl⟩
  · subst hv
    exact ⟨_, _, rfl, rfl, hn, hc, hs, .inr ⟨g, 0, rfl, (Array.getElem?_eq_some_iff.1 hh).1, fun j hj => by rw [Nat.zero_add, h.cellAt j (by omega)]; simp [hj]⟩⟩

set_option maxHeartbeats 4000000 in
theorem twiceS (a : Option Addr) (n cap : Nat) (ts : List ByteArray) (w : World) (hs : SSeg w a n cap ts) (hz : ∀ t ∈ ts, t.size ≤ 140737488355328) :
    Calls Try.prog 16 #[.slice a n cap] w fun e w' => ∃ b : Bool, e = .returned (.bool b) ∧ (b = false ↔ Clean ts ts.length) ∧ Below w.heap.size w w' := by
  have hxl := hs.1
  have hcap := hs.2.1
  have hcm := hs.2.2.1
  have HS := hide hs
  clear hs
  go_enter Try.func16, Try.ntmps16
  go_wp2
  go_loopw [3] (fun i wr => ∃ k : Nat, k ≤ n ∧ i = .int .i64 k ∧ Hid (Clean ts k) ∧ Hid (Below w.heap.size w wr)) (fun i _ => n - (intOf i).toNat)
  case atStart => exact ⟨0, Nat.zero_le _, rfl, hide (fun i _ h => absurd h (Nat.not_lt_zero _)), hide (bl_refl w)⟩
  case round =>
    obtain ⟨k, hk, rfl, hc, hb⟩ := hrel
    by_cases hlt : k < n
    · have hlt' : (k : Int) < (n : Int) := by omega
      have hkx : k < ts.length := by omega
      obtain ⟨g, o, rfl, hg, t0⟩ := (HS.out.below hb.out).at hkx
      have hsz := hz ts[k] (List.getElem_mem _)
      obtain ⟨t, et⟩ : ∃ t, ts[k] = t := ⟨_, rfl⟩
      have ET := hide et
      rw [et] at t0 hsz
      clear et
      go_wp2_with fail
      refine (Nm.nameS t _ hsz).mono ?_
      rintro e w2 ⟨rfl, q, rfl⟩
      have HB2 := hide (below_drewN hb.out q)
      cases hn : Nm.nameOkB t with
      | false =>
        have HN := hide hn
        clear hn
        go_wp2
        go_ret
        exact ⟨true, rfl, ⟨fun h => (nomatch h), fun h => by have := (h k hkx hkx).1; rw [ET.out, HN.out] at this; cases this⟩, HB2.out⟩
      | true =>
        have HN := hide hn
        clear hn
        go_wp2
        generalize wr.drewN q = w3 at *
        clear t0 hg
        go_loopw [4] (fun i wr => ∃ j : Nat, j ≤ k ∧ i = .int .i64 j ∧ Hid (∀ x (hx : x < j) (hl : x < ts.length), ts[x] ≠ t) ∧ Hid (Below w.heap.size w wr)) (fun i _ => k - (intOf i).toNat)
        case atStart => exact ⟨0, Nat.zero_le _, rfl, hide (fun x h _ => absurd h (Nat.not_lt_zero _)), HB2⟩
        case round =>
          rename_i w4
          clear HB2
          obtain ⟨j, hj, rfl, hd, hb2⟩ := hrel
          by_cases hlj : j < k
          · have hlj' : (j : Int) < (k : Int) := by omega
            have hjx : j < ts.length := by omega
            have hjn : (j : Int) < (n : Int) := by omega
            obtain ⟨g1, o1, e1, hg1, t1⟩ := (HS.out.below hb2.out).at hkx
            obtain ⟨g2, o2, e2, hg2, t2⟩ := (HS.out.below hb2.out).at hjx
            cases e1
            cases e2
            rw [ET.out] at t1
            obtain ⟨u, eu⟩ : ∃ u, ts[j] = u := ⟨_, rfl⟩
            have EU := hide eu
            rw [eu] at t2
            clear eu
            by_cases hq : u = t
            · have hq2 := txt_eq hq
              have HQ := hide hq
              clear hq
              go_wp2_with fail
              go_region
              all_goals go_wp2
              all_goals go_ret
              all_goals exact ⟨true, rfl, ⟨fun h => (nomatch h), fun h => absurd ((EU.out.trans HQ.out).trans ET.out.symm) ((h k hkx hkx).2 j hlj)⟩, by first | exact hb2.out | exact hb2.out.drew | exact below_drewN hb2.out _⟩
            · have hq2 := txt_ne hq
              have HD : Hid (∀ x (hx : x < j + 1) (hl : x < ts.length), ts[x] ≠ t) := hide (fun x hx hl => by
                by_cases e : x = j
                · subst e; rw [EU.out]; exact hq
                · exact hd.out x (by omega) hl)
              clear hq
              go_wp2_with fail
              go_region
              all_goals go_wp2
              all_goals exact ⟨⟨j + 1, by omega, by go_num, HD, hide (by first | exact hb2.out | exact hb2.out.drew | exact below_drewN hb2.out _)⟩, by simp [intOf]; omega⟩
          · obtain rfl : j = k := by omega
            have HC : Hid (Clean ts (j + 1)) := hide (fun i hi hi2 => by
              by_cases e : i = j
              · subst e; exact ⟨by rw [ET.out]; exact HN.out, fun x hx => by rw [ET.out]; exact hd.out x hx (by omega)⟩
              · exact hc.out i hi (by omega))
            go_wp2
            exact ⟨⟨j + 1, by omega, by go_num, HC, hb2⟩, by simp [intOf]; omega⟩
    · obtain rfl : k = n := by omega
      go_wp2
      go_ret
      exact ⟨false, rfl, ⟨fun _ => by have := hc.out; rw [← hxl] at this; exact this, fun _ => rfl⟩, hb.out⟩

end Go.Proofs.Ytbopgbpnbonkeaa

/- Both VarsOk: the walks. -/
namespace Go.Proofs.Ytbopgbpnbonkeaa
open Go.RowKit
set_option linter.unusedVariables false
set_option maxRecDepth 20000

set_option maxHeartbeats 600000 in
set_option maxRecDepth 20000 in
theorem varsOkS (a : Option Addr) (n cap : Nat) (X : Nat → Prop) (rs : List (List Lf)) (q : Int) (w : World) (hs : RSeg w X 7 a n cap rs) (hsh : ∀ r ∈ rs, Sh7 r) (ht : rtot rs ≤ 1048576) :
    Calls Try.prog 6 #[.slice a n cap, .int .i64 q] w fun e w' => Tells (VarsP rs q) e ∧ Below w.heap.size w w' := by
  obtain ⟨i0, hi, hz0, hz1, hz2⟩ := info_parts Try.infoStr
  have hxl := hs.1
  have hn := hs.le
  have hcap := hs.2.1
  have hcm := hs.2.2.1
  have HS := hide hs
  clear hs
  by_cases h8 : (8 : Int) < (n : Int)
  · go_enter Try.func6, Try.ntmps6
    go_wp2
    go_ret
    exact ⟨tell_no (fun h => by have := h.1; omega), bl_refl w⟩
  by_cases hq : q < 0 ∨ 8 < q
  · go_enter Try.func6, Try.ntmps6
    go_wp2_with fail
    refine (V.inS_no q 0 8 _ hq).mono ?_
    rintro e w1 ⟨rfl, hw⟩
    subst w1
    go_wp2
    go_ret
    exact ⟨tell_no (fun h => by have := h.2.1; have := h.2.2.1; omega), bl_refl w⟩
  go_enter Try.func6, Try.ntmps6
  go_wp2_with fail
  refine (V.inS_yes q 0 8 _ (by omega) (by omega)).mono ?_
  rintro e w1 ⟨rfl, hw⟩
  subst w1
  go_wp2
  go_loopw [5, 6] (fun v i wr => ∃ k : Nat, k ≤ n ∧ i = .int .i64 k ∧ Hid (wr.ownsRow w.heap.size 9 1 v ((rs.take k).map nmOf).length (((rs.take k).map nmOf).map Value.string)) ∧ Hid (∀ j (hj : j < rs.length), j < k → varB rs[j] q = true) ∧ Hid (Below w.heap.size w wr)) (fun _ i _ => n - (intOf i).toNat)
  case atStart => exact ⟨0, Nat.zero_le _, rfl, hide (World.ownsRow_lit w #[] 0 (Nat.le_refl _) (by unfold maxLen; omega) rfl), hide (fun j _ h => absurd h (Nat.not_lt_zero _)), hide ((Below.refl _ _).alloc (Nat.le_refl _) _)⟩
  case round =>
    obtain ⟨k, hk, rfl, hrow, hf, hb⟩ := hrel
    by_cases hlt : k < n
    · have hlt' : (k : Int) < (n : Int) := by omega
      have hkx : k < rs.length := by omega
      obtain ⟨g, o, rfl, hg, hrec⟩ := (HS.out.below hb.out).at hkx
      obtain ⟨r, hr⟩ : ∃ r, rs[k] = r := ⟨_, rfl⟩
      have HR := hide hr
      rw [hr] at hrec
      obtain ⟨nm1, n1, xs, m1, ys, den, ps, er⟩ := hsh r (by rw [← hr]; exact List.getElem_mem _)
      clear hr
      rw [er] at hrec
      have ER := hide er
      clear er
      obtain ⟨a1, c1, a2, c2, a3, c3, t0, t1, t2, t3, t4, t5, t6, sg1, sg2, sg3, _⟩ := open7 hrec
      have q3 := V.Seg.le sg3
      have t2' : wr.cell? ⟨g, o + k * 7 + 1 + 1, none⟩ = _ := t2
      have t3' : wr.cell? ⟨g, o + k * 7 + 1 + 2, none⟩ = _ := t3
      have t4' : wr.cell? ⟨g, o + k * 7 + 1 + 3, none⟩ = _ := t4
      have H1 := hide sg1
      have H2 := hide sg2
      have H3 := hide sg3
      have hvb : Hid (varB rs[k] q = (aboveB n1 xs m1 ys && vokB7 den ps q)) := hide (by rw [HR.out, ER.out]; rfl)
      clear hrec sg1 sg2 sg3
      go_wp2_with fail
      refine (aboveS n1 xs m1 ys a1 c1 a2 c2 wr H1.out H2.out).mono ?_
      rintro e w2 ⟨rfl, hb2⟩
      have hg2 : g < w2.heap.size := Nat.lt_of_lt_of_le hg hb2.size
      replace t0 := (hb2.cell (p := ⟨g, o + k * 7, none⟩) hg).trans t0
      replace t5 := (hb2.cell (p := ⟨g, o + k * 7 + 5, none⟩) hg).trans t5
      have t6' : w2.cell? ⟨g, o + k * 7 + 5 + 1, none⟩ = _ := (hb2.cell (p := ⟨g, o + k * 7 + 6, none⟩) hg).trans t6
      replace H3 := hide (H3.out.below hb2)
      have HB := hide (bl_trans hb.out hb2)
      have hrow2 := hide (hrow.out.kept (grown_of_below hb2) (by cases h : u5.ownBlock <;> simp))
      clear hb2 t1 t2 t3 t4 t2' t3' t4' t6 H1 H2
      cases ha : aboveB n1 xs m1 ys with
      | false =>
        have HA : Hid (varB rs[k] q = false) := hide (by rw [hvb.out, ha]; rfl)
        clear ha
        go_wp2
        go_ret
        exact ⟨tell_no (fun h => by have := (h.2.2.2 k hkx hkx).1; rw [HA.out] at this; cases this), HB.out⟩
      | true =>
        have HA : Hid (varB rs[k] q = vokB7 den ps q) := hide (by rw [hvb.out, ha]; rfl)
        clear ha
        go_wp2_with fail
        refine (V.vecOkS den a3 c3 ps w2 H3.out).mono ?_
        rintro e w3 ⟨rfl, hb3⟩
        have hg3 : g < w3.heap.size := Nat.lt_of_lt_of_le hg2 hb3.size
        replace t0 := (hb3.cell (p := ⟨g, o + k * 7, none⟩) hg2).trans t0
        replace t6' : w3.cell? ⟨g, o + k * 7 + 5 + 1, none⟩ = _ := (hb3.cell (p := ⟨g, o + k * 7 + 5 + 1, none⟩) hg2).trans t6'
        replace HB := hide (bl_trans HB.out hb3)
        have hrow3 := hide (hrow2.out.kept (grown_of_below hb3) (by cases h : u5.ownBlock <;> simp))
        clear hb3 t5 H3 hrow2
        cases hv : V.vokB den ps with
        | false =>
          have HV : Hid (varB rs[k] q = false) := hide (by rw [HA.out]; unfold vokB7; rw [hv]; rfl)
          clear hv
          go_wp2
          go_ret
          exact ⟨tell_no (fun h => by have := (h.2.2.2 k hkx hkx).1; rw [HV.out] at this; cases this), HB.out⟩
        | true =>
          by_cases hl : (ps.length : Int) = q
          · have HV : Hid (varB rs[k] q = true) := hide (by rw [HA.out]; unfold vokB7; rw [hv, decide_eq_true hl]; rfl)
            have hl2 : ((ps.length : Int) != q) = false := by rw [bne_eq_false_iff_eq]; exact hl
            have hl3 : ((rs.take k).map nmOf).length = k := by simp; omega
            have HL3 := hide hl3
            have hbs := HB.out.size
            have hrow' := hrow3.out
            clear hv hl hl3 hrow hrow3 hb
            go_wp2_with (at_builtin; refine wpList_append_own _ rfl _ _ 43 rfl w.heap.size 9 i0 (.string ⟨#[]⟩) 1 16 Try.underlying43 hi hz0 hz1 hz2 rfl (by decide) _ _ _ rfl (hrow'.alloc _) ⟨w3.heap.size, 0, none⟩ 1 1 [.string nm1] rfl rfl (cell_one_new _ _ _) (by simp [Value.oneCell']) (by unfold maxLen; rw [HL3.out]; omega) (by rw [HL3.out]; omega) (by simp; omega) ?_; intro v' w4 hown' hgrow _; have hg2 := (show (w3.alloc _).grownBy w4 u5.ownBlock from hgrow); clear hgrow)
            refine ⟨⟨k + 1, by omega, by go_num, hide ?_, hide ?_, hide ?_⟩, by simp [intOf]; omega⟩
            · have e : (rs.take (k + 1)).map nmOf = (rs.take k).map nmOf ++ [nm1] := by
                rw [List.take_succ_eq_append_getElem hkx, List.map_append, HR.out, ER.out]; rfl
              rw [e, List.length_append, List.map_append]; exact hown'
            · intro j hj hjk
              by_cases e : j = k
              · subst e; exact HV.out
              · exact hf.out j hj (by omega)
            · exact (HB.out.alloc HB.out.size _).grown hg2 (by simp; omega) (fun k e => (hrow'.lt k e).1)
          · have HV : Hid (varB rs[k] q = false) := hide (by rw [HA.out]; unfold vokB7; rw [hv, decide_eq_false hl]; rfl)
            have hl2 : ((ps.length : Int) != q) = true := by simp only [bne_iff_ne]; exact hl
            clear hv hl
            go_wp2
            go_ret
            exact ⟨tell_no (fun h => by have := (h.2.2.2 k hkx hkx).1; rw [HV.out] at this; cases this), HB.out⟩
    · obtain rfl : k = n := by omega
      have e : rs.take k = rs := List.take_of_length_le (by omega)
      rw [e] at hrow
      have hmz : ∀ t ∈ rs.map nmOf, t.size ≤ 140737488355328 := by
        intro t h
        obtain ⟨r, hr, rfl⟩ := List.mem_map.1 h
        have h1 := rtot_mem hr
        obtain ⟨nm1, n1, xs, m1, ys, den, ps, er⟩ := hsh r hr
        rw [er] at h1 ⊢
        simp only [rsz, Lf.sz, nmOf] at h1 ⊢
        omega
      obtain ⟨a', c', hv', hseg⟩ := row_sseg hrow.out (fun t h => by have := hmz t h; omega)
      have hm : (rs.map nmOf).length = k := by simp; omega
      rw [hm] at hv' hseg
      clear hm
      subst hv'
      have HSG := hide hseg
      clear hseg e
      go_wp2_with fail
      refine (twiceS a' _ c' (rs.map nmOf) wr HSG.out hmz).mono ?_
      rintro e w5 ⟨b, rfl, hbb, hb5⟩
      have HBB := hide hbb
      clear hbb
      go_wp2
      go_ret
      refine ⟨⟨!b, rfl, ?_⟩, bl_trans hb.out hb5⟩
      have hc := HBB.out
      have e2 : (!b) = true ↔ b = false := by cases b <;> simp
      rw [e2, hc]
      constructor
      · intro h
        refine ⟨by omega, by omega, by omega, fun i hi _ => ⟨hf.out i hi (by omega), ?_, ?_⟩⟩
        · have := (h i (by simpa using hi) (by simpa using hi)).1
          simpa using this
        · intro j hj
          have := (h i (by simpa using hi) (by simpa using hi)).2 j hj
          simpa using this
      · intro h i hi _
        have hi' : i < rs.length := by simpa using hi
        have := (h.2.2.2 i hi' hi').2
        exact ⟨by simpa using this.1, fun j hj => by simpa using this.2 j hj⟩


end Go.Proofs.Ytbopgbpnbonkeaa

/- Both VarsOk: the walks. -/
namespace Go.Proofs.Ytbopgbpnbonkeaa
open Go.RowKit
set_option linter.unusedVariables false
set_option maxRecDepth 20000

set_option maxHeartbeats 600000 in
set_option maxRecDepth 20000 in
theorem varsOkI (a : Option Addr) (n cap : Nat) (X : Nat → Prop) (rs : List (List Lf)) (q : Int) (w : World) (hs : RSeg w X 7 a n cap rs) (hsh : ∀ r ∈ rs, Sh7 r) (ht : rtot rs ≤ 1048576) :
    Calls Try.prog 8 #[.slice a n cap, .int .i64 q] w fun e w' => Tells (VarsP rs q) e ∧ Below w.heap.size w w' := by
  have hxl := hs.1
  have hn := hs.le
  have hcap := hs.2.1
  have hcm := hs.2.2.1
  have HS := hide hs
  clear hs
  by_cases hq0 : q < 0
  · go_enter Try.func8, Try.ntmps8
    go_wp2
    go_ret
    exact ⟨tell_no (fun h => by have := h.2.1; omega), bl_refl w⟩
  by_cases hq8 : 8 < q
  · go_enter Try.func8, Try.ntmps8
    go_wp2
    go_ret
    exact ⟨tell_no (fun h => by have := h.2.2.1; omega), bl_refl w⟩
  by_cases h8 : (8 : Int) < (n : Int)
  · go_enter Try.func8, Try.ntmps8
    go_wp2
    go_ret
    exact ⟨tell_no (fun h => by have := h.1; omega), bl_refl w⟩
  go_enter Try.func8, Try.ntmps8
  go_wp2
  go_loopw [20] (fun i wr => ∃ k : Nat, k ≤ n ∧ i = .int .i64 k ∧ Hid (Fine rs q k) ∧ Hid (Below w.heap.size w wr)) (fun i _ => n - (intOf i).toNat)
  case atStart => exact ⟨0, Nat.zero_le _, rfl, hide (fun j _ h => absurd h (Nat.not_lt_zero _)), hide (bl_refl w)⟩
  case round =>
    obtain ⟨k, hk, rfl, hf, hb⟩ := hrel
    by_cases hlt : k < n
    · have hlt' : (k : Int) < (n : Int) := by omega
      have hkx : k < rs.length := by omega
      obtain ⟨g, o, rfl, hg, hrec⟩ := (HS.out.below hb.out).at hkx
      have hto := rtot_mem (List.getElem_mem hkx)
      obtain ⟨r, hr⟩ : ∃ r, rs[k] = r := ⟨_, rfl⟩
      have HR := hide hr
      rw [hr] at hrec hto
      obtain ⟨nm1, n1, xs, m1, ys, den, ps, er⟩ := hsh r (by rw [← hr]; exact List.getElem_mem _)
      clear hr
      rw [er] at hrec hto
      have ER := hide er
      clear er
      obtain ⟨a1, c1, a2, c2, a3, c3, t0, t1, t2, t3, t4, t5, t6, sg1, sg2, sg3, _⟩ := open7 hrec
      have hnm : nm1.size ≤ 140737488355328 := by simp only [rsz, Lf.sz] at hto; omega
      have hvb : Hid (varB rs[k] q = (aboveB n1 xs m1 ys && vokB7 den ps q)) := hide (by rw [HR.out, ER.out]; rfl)
      have hnb : Hid (nmOf rs[k] = nm1) := hide (by rw [HR.out, ER.out]; rfl)
      have H1 := hide sg1
      have H2 := hide sg2
      have H3 := hide sg3
      clear hrec sg1 sg2 sg3 hto
      go_wp2_with fail
      have kx : Hid ((wr.alloc (Obj.cells #[Value.string nm1, Value.bool n1, Value.slice a1 xs.length c1, Value.bool m1, Value.slice a2 ys.length c2, Value.int .i64 den, Value.slice a3 ps.length c3] 50)).heap[wr.heap.size]? = some (Obj.cells #[Value.string nm1, Value.bool n1, Value.slice a1 xs.length c1, Value.bool m1, Value.slice a2 ys.length c2, Value.int .i64 den, Value.slice a3 ps.length c3] 50)) := hide (hnew _ _)
      have hbx := hide ((bl_refl wr).alloc (Nat.le_refl _) (Obj.cells #[Value.string nm1, Value.bool n1, Value.slice a1 xs.length c1, Value.bool m1, Value.slice a2 ys.length c2, Value.int .i64 den, Value.slice a3 ps.length c3] 50))
      have hyx : wr.heap.size + 1 ≤ (wr.alloc (Obj.cells #[Value.string nm1, Value.bool n1, Value.slice a1 xs.length c1, Value.bool m1, Value.slice a2 ys.length c2, Value.int .i64 den, Value.slice a3 ps.length c3] 50)).heap.size := by simp only [World.size_alloc]; omega
      generalize wr.alloc (Obj.cells #[Value.string nm1, Value.bool n1, Value.slice a1 xs.length c1, Value.bool m1, Value.slice a2 ys.length c2, Value.int .i64 den, Value.slice a3 ps.length c3] 50) = w1 at *
      replace H1 := hide (H1.out.below hbx.out)
      replace H2 := hide (H2.out.below hbx.out)
      replace H3 := hide (H3.out.below hbx.out)
      clear t0 t1 t2 t3 t4 t5 t6
      refine (varFitsI nm1 n1 xs m1 ys den ps q a1 c1 a2 c2 a3 c3 w1 H1.out H2.out H3.out hnm).mono ?_
      rintro e w2 ⟨rfl, hb2⟩
      have HB := hide (bl_trans (bl_trans hb.out hbx.out) hb2)
      replace kx := hide (hbel kx.out hb2 (by omega))
      have k0 : w2.cell? ⟨wr.heap.size, 0, none⟩ = some (Value.string nm1) := (Lib.cell_of_heap kx.out 0).trans rfl
      clear hb2 H1 H2 H3
      cases hfit : (Nm.nameOkB nm1 && (aboveB n1 xs m1 ys && vokB7 den ps q)) with
      | false =>
        have HV : Hid (¬ (varB rs[k] q = true ∧ Nm.nameOkB (nmOf rs[k]) = true)) := hide (by
          rw [hvb.out, hnb.out]; intro h; rw [h.1, h.2] at hfit; cases hfit)
        clear hfit
        go_wp2
        go_ret
        exact ⟨tell_no (fun h => by have := h.2.2.2 k hkx hkx; exact absurd ⟨this.1, this.2.1⟩ HV.out), HB.out⟩
      | true =>
        have HV : Hid (varB rs[k] q = true ∧ Nm.nameOkB (nmOf rs[k]) = true) := hide (by
          rw [hvb.out, hnb.out]; rw [Bool.and_eq_true] at hfit; exact ⟨hfit.2, hfit.1⟩)
        clear hfit
        go_wp2_with fail
        refine (varAtI _ n cap X rs nm1 w2 (HS.out.below HB.out) hsh).mono ?_
        rintro e w3 ⟨rfl, hb3⟩
        replace HB := hide (bl_trans HB.out hb3)
        clear hb3
        by_cases hat : vAt nm1 rs 0 = (k : Int)
        · have hat2 : (vAt nm1 rs 0 != (k : Int)) = false := by rw [bne_eq_false_iff_eq]; exact hat
          have HF : Hid (Fine rs q (k + 1)) := hide (fun i hi hi2 => by
            by_cases e : i = k
            · subst e; exact ⟨HV.out.1, HV.out.2, (vAt_own rs i hi).1 (by rw [hnb.out]; exact hat)⟩
            · exact hf.out i hi (by omega))
          generalize vAt nm1 rs 0 = V at *
          clear hat
          go_wp2
          exact ⟨⟨k + 1, by omega, by go_num, HF, HB⟩, by simp [intOf]; omega⟩
        · have hat2 : (vAt nm1 rs 0 != (k : Int)) = true := by simp only [bne_iff_ne]; exact hat
          have HF : Hid (¬ ∀ j (hj : j < k), nmOf (rs[j]'(by omega)) ≠ nmOf rs[k]) := hide (fun h => hat (by rw [← hnb.out]; exact (vAt_own rs k hkx).2 h))
          generalize vAt nm1 rs 0 = V at *
          clear hat
          go_wp2
          go_ret
          exact ⟨tell_no (fun h => absurd (h.2.2.2 k hkx hkx).2.2 HF.out), HB.out⟩
    · obtain rfl : k = n := by omega
      go_wp2
      go_ret
      exact ⟨tell_yes ⟨by omega, by omega, by omega, by have := hf.out; rw [← hxl] at this; exact this⟩, hb.out⟩

end Go.Proofs.Ytbopgbpnbonkeaa

/- The walk of the exact law of VarsOk. -/
namespace Go.Proofs.Ytbopgbpnbonkeaa
open Go.RowKit
set_option linter.unusedVariables false
set_option maxRecDepth 20000

set_option maxHeartbeats 4000000 in
theorem walkVarsOk (a : Option Addr) (n cap : Nat) (rs : List (List Lf)) (q : Int) (w : World) (hs : RSeg w (fun _ => True) 7 a n cap rs) (hsh : ∀ r ∈ rs, Sh7 r) :
    Calls Try.prog 3 #[.slice a n cap, .int .i64 q] w fun e w' => e = .returned (.bool true) ∧ Below w.heap.size w w' := by
  have HS := hide hs
  have hn := hs.le
  have hxl := hs.1
  clear hs
  go_enter Try.func3, Try.ntmps3
  go_wp2_with fail
  refine (szVarS a n cap _ rs 1048576 _ HS.out hsh (by omega) (by omega)).mono ?_
  rintro e w1 ⟨rfl, hb1⟩
  have HB := hide hb1
  clear hb1
  by_cases hz : (1048576 : Int) < ((n + rtot rs : Nat) : Int)
  · have HE : Hid (rleft 1048576 (n + rtot rs) = -1) := hide (by unfold rleft; rw [if_pos hz])
    rw [HE.out]
    go_wp2
    go_ret
    exact ⟨rfl, HB.out⟩
  have HE : Hid (rleft 1048576 (n + rtot rs) = 1048576 - ((n + rtot rs : Nat) : Int)) := hide (by unfold rleft; rw [if_neg hz])
  have ht : rtot rs ≤ 1048576 := by omega
  have hn2 : n ≤ 1048576 := by omega
  have hz0 : ¬ 1048576 - ((n + rtot rs : Nat) : Int) < 0 := by omega
  rw [HE.out]
  generalize hgz : ((n + rtot rs : Nat) : Int) = z at *
  clear hgz hz HE
  go_wp2_with fail
  refine (toVarS a n cap _ rs _ (HS.out.below HB.out) hsh hn2 ht).mono ?_
  rintro e w2 ⟨g1, rfl, hm1, hb2⟩
  have M1 := hide (hm1.seg hxl hn HS.out.2.2.2.1)
  replace HB := hide (bl_trans HB.out hb2)
  clear hm1 hb2
  go_wp2_with fail
  refine (varsOkS _ n n _ rs q _ M1.out hsh ht).mono ?_
  rintro e w3 ⟨⟨x1, rfl, hx1⟩, hb3⟩
  have HX1 := hide hx1
  clear hx1
  replace HB := hide (bl_trans HB.out hb3)
  clear M1 hb3
  go_wp2_with fail
  refine (toVarS a n cap _ rs _ (HS.out.below HB.out) hsh hn2 ht).mono ?_
  rintro e w4 ⟨g2, rfl, hm2, hb4⟩
  have M2 := hide (hm2.seg hxl hn HS.out.2.2.2.1)
  replace HB := hide (bl_trans HB.out hb4)
  clear hm2 hb4
  go_wp2_with fail
  refine (varsOkI _ n n _ rs q _ M2.out hsh ht).mono ?_
  rintro e w5 ⟨⟨x2, rfl, hx2⟩, hb5⟩
  obtain rfl : x2 = x1 := Bool.eq_iff_iff.2 (hx2.trans HX1.out.symm)
  clear hx2 HX1
  have hxx : (x2 != x2) = false := by simp
  replace HB := hide (bl_trans HB.out hb5)
  replace M2 := hide (M2.out.below hb5)
  clear hb5
  go_wp2_with fail
  refine (toVarS a n cap _ rs _ (HS.out.below HB.out) hsh hn2 ht).mono ?_
  rintro e w6 ⟨g3, rfl, hm3, hb6⟩
  have M3 := hide (hm3.seg hxl hn HS.out.2.2.2.1)
  replace HB := hide (bl_trans HB.out hb6)
  replace M2 := hide (M2.out.below hb6)
  clear hm3 hb6
  go_wp2_with fail
  refine (eqVarS _ _ n n n _ _ rs _ M2.out M3.out hsh).mono ?_
  rintro e w7 ⟨rfl, hb7⟩
  replace HB := hide (bl_trans HB.out hb7)
  clear hb7
  go_wp2
  go_ret
  exact ⟨rfl, HB.out⟩
end Go.Proofs.Ytbopgbpnbonkeaa
