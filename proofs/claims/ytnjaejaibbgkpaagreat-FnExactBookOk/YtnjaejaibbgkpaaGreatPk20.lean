/- My texts Vok, Bk, BkS, in this order. -/
import Derived.Test.YtnjaejaibbgkpaaGreatVk
import Derived.Test.YtnjaejaibbgkpaaGreatVa
import Derived.Test.YtnjaejaibbgkpaaGreatPk02
import Derived.Test.YtnjaejaibbgkpaaGreatPk05
import Derived.Test.YtnjaejaibbgkpaaGreatPk14
import Derived.Maps.AppendAt
/- Both VarsOk: whether a list of variables is right. -/
namespace Go.Proofs.YtnjaejaibbgkpaaGreat
open Go.RowKit
set_option linter.unusedVariables false
set_option maxRecDepth 20000

/-- one of them, without its name -/
def varB (r : List Lf) (k : Int) : Bool := match r with
  | [.t _, .b n, .l xs, .b m, .l ys, .i den, .p ps] => aboveB n xs m ys && vokB7 den ps k
  | _ => false
/-- some of the first k are right, their names too, and no name is told twice -/
def Fine (rs : List (List Lf)) (n : Int) (k : Nat) : Prop := ∀ i (hi : i < rs.length), i < k → varB rs[i] n = true ∧ Nm.nameOkB (nmOf rs[i]) = true ∧ ∀ j (hj : j < i), nmOf (rs[j]'(by omega)) ≠ nmOf rs[i]
def VarsP (rs : List (List Lf)) (n : Int) : Prop := rs.length ≤ 8 ∧ 0 ≤ n ∧ n ≤ 8 ∧ Fine rs n rs.length
theorem vAt_le (nm : ByteArray) : ∀ (rs : List (List Lf)) (j k : Nat) (hk : k < rs.length), nmOf rs[k] = nm → vAt nm rs j ≤ ((j + k : Nat) : Int)
  | [], _, _, hk, _ => by simp at hk
  | r :: rs, j, 0, _, h => by
    simp only [List.getElem_cons_zero] at h
    simp only [vAt, h, if_true]; omega
  | r :: rs, j, k + 1, hk, h => by
    simp only [List.getElem_cons_succ] at h
    simp only [vAt]
    split
    · omega
    · have := vAt_le nm rs (j + 1) k (by simpa using hk) h; omega
theorem vAt_skip (nm : ByteArray) (rs : List (List Lf)) : ∀ (m : Nat), m ≤ rs.length → (∀ j (hj : j < m) (hl : j < rs.length), nmOf rs[j] ≠ nm) → vAt nm rs 0 = vAt nm (rs.drop m) m
  | 0, _, _ => rfl
  | m + 1, hm, h => by
    rw [vAt_skip nm rs m (by omega) (fun j hj hl => h j (by omega) hl), vAt_step nm rs m (by omega), if_neg (h m (by omega) (by omega))]
/-- it stands at its own place just where no one ahead has its name -/
theorem vAt_own (rs : List (List Lf)) (i : Nat) (hi : i < rs.length) : vAt (nmOf rs[i]) rs 0 = (i : Int) ↔ ∀ j (hj : j < i), nmOf (rs[j]'(by omega)) ≠ nmOf rs[i] := by
  constructor
  · intro h j hj e
    have := vAt_le (nmOf rs[i]) rs 0 j (by omega) e
    omega
  · intro h
    rw [vAt_skip (nmOf rs[i]) rs i (by omega) (fun j hj _ => h j hj), vAt_step _ rs i hi, if_pos rfl]

/-- a yes or no -/
def Tells (P : Prop) (e : Ending) : Prop := ∃ b : Bool, e = .returned (.bool b) ∧ (b = true ↔ P)
theorem tell_no {P : Prop} (h : ¬ P) : Tells P (.returned (.bool false)) := ⟨false, rfl, fun e => (nomatch e), fun e => absurd e h⟩
theorem tell_yes {P : Prop} (h : P) : Tells P (.returned (.bool true)) := ⟨true, rfl, fun _ => h, fun _ => rfl⟩
/-- one name of a list is none, or comes again -/
def Clean (ts : List ByteArray) (k : Nat) : Prop := ∀ i (hi : i < ts.length), i < k → Nm.nameOkB ts[i] = true ∧ ∀ j (hj : j < i), ts[j]'(by omega) ≠ ts[i]
theorem row_sseg {W : World} {base : Nat} {v : Value} {ts : List ByteArray} (h : W.ownsRow base 9 1 v ts.length (ts.map Value.string)) (hs : ∀ t ∈ ts, t.size ≤ 9223372036854775807) : ∃ a c, v = .slice a ts.length c ∧ SSeg W a ts.length c ts := by
  rcases h.2 with ⟨h1, h2⟩ | ⟨g, cap', cur, hv, hg, hh, hn, hc, _⟩
  · subst h1
    have h2' : ts.length = 0 := by omega
    rw [h2']
    exact ⟨none, 0, rfl, h2', Nat.le_refl _, by omega, hs, .inl rfl⟩
  · subst hv
    exact ⟨_, _, rfl, rfl, hn, hc, hs, .inr ⟨g, 0, rfl, (Array.getElem?_eq_some_iff.1 hh).1, fun j hj => by rw [Nat.zero_add, h.cellAt j (by omega)]; simp [hj]⟩⟩

set_option maxHeartbeats 4000000 in
theorem twiceS (a : Option Addr) (n cap : Nat) (ts : List ByteArray) (w : World) (hs : SSeg w a n cap ts) (hz : ∀ t ∈ ts, t.size ≤ 140737488355328) :
    Calls Tryz.prog 24 #[.slice a n cap] w fun e w' => ∃ b : Bool, e = .returned (.bool b) ∧ (b = false ↔ Clean ts ts.length) ∧ Below w.heap.size w w' := by
  have hxl := hs.1
  have hcap := hs.2.1
  have hcm := hs.2.2.1
  have HS := hide hs
  clear hs
  go_enter Tryz.func24, Tryz.ntmps24
  go_wp2
  go_loopw [3] (fun i wr => ∃ k : Nat, k ≤ n ∧ i = .int .i64 k ∧ Hid (Clean ts k) ∧ Hid (Below w.heap.size w wr)) (fun i _ => n - (intOf i).toNat)
  case atStart => exact ⟨0, Nat.zero_le _, rfl, hide (fun i _ h => absurd h (Nat.not_lt_zero _)), hide (bl_refl w)⟩
  case round =>
    obtain ⟨k, hk, rfl, hc, hb⟩ := hrel
    by_cases hlt : k < n
    · have hlt' : (k : Int) < (n : Int) := by omega
      have hkx : k < ts.length := by omega
      obtain ⟨g, o, rfl, hg, t0⟩ := (HS.out.below hb.out).at hkx
      have hsz := hz ts[k] (List.getElem_mem _)
      obtain ⟨t, et⟩ : ∃ t, ts[k] = t := ⟨_, rfl⟩
      have ET := hide et
      rw [et] at t0 hsz
      clear et
      go_wp2_with fail
      refine (Nm.nameS t _ hsz).mono ?_
      rintro e w2 ⟨rfl, q, rfl⟩
      have HB2 := hide (below_drewN hb.out q)
      cases hn : Nm.nameOkB t with
      | false =>
        have HN := hide hn
        clear hn
        go_wp2
        go_ret
        exact ⟨true, rfl, ⟨fun h => (nomatch h), fun h => by have := (h k hkx hkx).1; rw [ET.out, HN.out] at this; cases this⟩, HB2.out⟩
      | true =>
        have HN := hide hn
        clear hn
        go_wp2
        generalize wr.drewN q = w3 at *
        clear t0 hg
        go_loopw [4] (fun i wr => ∃ j : Nat, j ≤ k ∧ i = .int .i64 j ∧ Hid (∀ x (hx : x < j) (hl : x < ts.length), ts[x] ≠ t) ∧ Hid (Below w.heap.size w wr)) (fun i _ => k - (intOf i).toNat)
        case atStart => exact ⟨0, Nat.zero_le _, rfl, hide (fun x h _ => absurd h (Nat.not_lt_zero _)), HB2⟩
        case round =>
          rename_i w4
          clear HB2
          obtain ⟨j, hj, rfl, hd, hb2⟩ := hrel
          by_cases hlj : j < k
          · have hlj' : (j : Int) < (k : Int) := by omega
            have hjx : j < ts.length := by omega
            have hjn : (j : Int) < (n : Int) := by omega
            obtain ⟨g1, o1, e1, hg1, t1⟩ := (HS.out.below hb2.out).at hkx
            obtain ⟨g2, o2, e2, hg2, t2⟩ := (HS.out.below hb2.out).at hjx
            cases e1
            cases e2
            rw [ET.out] at t1
            obtain ⟨u, eu⟩ : ∃ u, ts[j] = u := ⟨_, rfl⟩
            have EU := hide eu
            rw [eu] at t2
            clear eu
            by_cases hq : u = t
            · have hq2 := txt_eq hq
              have HQ := hide hq
              clear hq
              go_wp2_with fail
              go_region
              all_goals go_wp2
              all_goals go_ret
              all_goals exact ⟨true, rfl, ⟨fun h => (nomatch h), fun h => absurd ((EU.out.trans HQ.out).trans ET.out.symm) ((h k hkx hkx).2 j hlj)⟩, by first | exact hb2.out | exact hb2.out.drew | exact below_drewN hb2.out _⟩
            · have hq2 := txt_ne hq
              have HD : Hid (∀ x (hx : x < j + 1) (hl : x < ts.length), ts[x] ≠ t) := hide (fun x hx hl => by
                by_cases e : x = j
                · subst e; rw [EU.out]; exact hq
                · exact hd.out x (by omega) hl)
              clear hq
              go_wp2_with fail
              go_region
              all_goals go_wp2
              all_goals exact ⟨⟨j + 1, by omega, by go_num, HD, hide (by first | exact hb2.out | exact hb2.out.drew | exact below_drewN hb2.out _)⟩, by simp [intOf]; omega⟩
          · obtain rfl : j = k := by omega
            have HC : Hid (Clean ts (j + 1)) := hide (fun i hi hi2 => by
              by_cases e : i = j
              · subst e; exact ⟨by rw [ET.out]; exact HN.out, fun x hx => by rw [ET.out]; exact hd.out x hx (by omega)⟩
              · exact hc.out i hi (by omega))
            go_wp2
            exact ⟨⟨j + 1, by omega, by go_num, HC, hb2⟩, by simp [intOf]; omega⟩
    · obtain rfl : k = n := by omega
      go_wp2
      go_ret
      exact ⟨false, rfl, ⟨fun _ => by have := hc.out; rw [← hxl] at this; exact this, fun _ => rfl⟩, hb.out⟩

end Go.Proofs.YtnjaejaibbgkpaaGreat

/- The specification's BookOk: what a book is, and the walk. -/
namespace Go.Proofs.YtnjaejaibbgkpaaGreat
open Go.RowKit
set_option linter.unusedVariables false
set_option maxRecDepth 20000

/-- a prefix, without its name -/
def pfB (r : List Lf) : Bool := match r with
  | [.t _, .b n, .l xs, .b m, .l ys] => aboveB n xs m ys
  | _ => false
/-- the names of bases and units -/
def bNames (bs : List ByteArray) (us : List (List Lf)) : List ByteArray := bs ++ us.map nmOf
def AllPf (ps : List (List Lf)) (k : Nat) : Prop := ∀ i (hi : i < ps.length), i < k → pfB ps[i] = true
def AllUn (us : List (List Lf)) (q : Int) (k : Nat) : Prop := ∀ i (hi : i < us.length), i < k → varB us[i] q = true
def BookP (bs : List ByteArray) (ps us : List (List Lf)) : Prop :=
  bs.length ≤ 6 ∧ ps.length ≤ 12 ∧ us.length ≤ 24 ∧ AllPf ps ps.length ∧ AllUn us bs.length us.length ∧ Clean (bNames bs us) (bNames bs us).length ∧ Clean (ps.map nmOf) (ps.map nmOf).length

theorem stot_mem {t : ByteArray} {ts : List ByteArray} (h : t ∈ ts) : t.size ≤ stot ts := by
  induction ts with
  | nil => cases h
  | cons u r ih =>
    simp only [stot]
    rcases List.mem_cons.1 h with rfl | h
    · omega
    · have := ih h; omega
theorem nmOf_sz (r : List Lf) : (nmOf r).size ≤ rsz r := by
  cases r with
  | nil => exact Nat.zero_le _
  | cons f r => cases f <;> simp only [nmOf, rsz, Lf.sz] <;> first | exact Nat.zero_le _ | omega
theorem stot_heads (ps : List (List Lf)) : stot (ps.map nmOf) ≤ rtot ps := by
  induction ps with
  | nil => exact Nat.le_refl _
  | cons u r ih => simp only [List.map_cons, stot, rtot]; have := nmOf_sz u; omega
theorem stot_names (bs : List ByteArray) (us : List (List Lf)) : stot (bNames bs us) ≤ stot bs + rtot us := by
  unfold bNames
  induction bs with
  | nil => have := stot_heads us; simp only [List.nil_append, stot]; omega
  | cons u r ih => simp only [List.cons_append, stot]; omega
/-- append of a list of texts onto an owned one -/
theorem wp_appS {w : World} {ops : Array Oper} {rest : List Oper} {o : Oper} {a : Act} {Q : Exit → Act → World → Prop} (hgd : o.guard = none) (s x : Operand)
    (ho : o.op = .call { callee := .builtin .append, args := #[s, x], argTypes := #[22, 22] }) (base : Nat) (v : Value) (ts : List ByteArray) (hs : a.eval s = v) (hown : w.ownsRow base 9 1 v ts.length (ts.map Value.string))
    (ad : Addr) (m cx : Nat) (us : List ByteArray) (hx : a.eval x = .slice (some ad) m cx) (hseg : SSeg w (some ad) m cx us) (h63 : ts.length + m ≤ 1000000) (hbase : base ≤ w.heap.size)
    (h : ∀ v' w', w'.ownsRow base 9 1 v' (ts ++ us).length ((ts ++ us).map Value.string) → w.grownBy w' v.ownBlock → wpList Tryz.prog ops Q rest (a.put o.dst v') w') : wpList Tryz.prog ops Q (o :: rest) a w := by
  obtain ⟨i0, hi, hz0, hz1, hz2⟩ := info_parts Tryz.infoStr
  have hm : us.length = m := hseg.1
  refine wpList_append_own w hgd s x 22 ho base 9 i0 (.string ⟨#[]⟩) 1 16 Tryz.underlying22 hi hz0 hz1 hz2 rfl (by decide) _ ts.length (ts.map Value.string) hs hown ad m cx (us.map Value.string) hx (by simp [hm]) ?_ (by intro u hu; obtain ⟨t, _, rfl⟩ := List.mem_map.1 hu; rfl) (by unfold maxLen; omega) (by omega) hbase ?_
  · intro j u hu
    rw [List.getElem?_map] at hu
    by_cases hj : j < us.length
    · rw [List.getElem?_eq_getElem hj] at hu
      have hu' : u = .string us[j] := by simpa using hu.symm
      subst hu'
      rcases hseg.2.2.2.2 with h0 | ⟨g, o, e, hg, hc⟩
      · omega
      · cases e
        rw [Addr.add_lit]
        exact hc j hj
    · rw [List.getElem?_eq_none (by omega)] at hu
      cases hu
  · intro v' w' ho' hg' _
    refine h v' w' ?_ hg'
    rw [List.map_append, List.length_append, hm]; exact ho'

set_option maxHeartbeats 4000000 in
set_option maxRecDepth 20000 in
theorem namesS (ad : Addr) (n c : Nat) (bs : List ByteArray) (b : Option Addr) (m d : Nat) (ps : List (List Lf)) (e : Option Addr) (l f : Nat) (us : List (List Lf)) (X Y : Nat → Prop) (w : World) (hs : SSeg w (some ad) n c bs) (hp : RSeg w X 5 b m d ps) (hsp : ∀ r ∈ ps, ShPf r) (hu : RSeg w Y 7 e l f us) (hsu : ∀ r ∈ us, ShUn r) (hn6 : n ≤ 1000) (hl6 : l ≤ 1000) :
    Calls Tryz.prog 25 #[Value.agg #[Value.slice (some ad) n c, Value.slice b m d, Value.slice e l f]] w fun e w' => ∃ a' c', e = .returned (.slice a' (n + l) c') ∧ SSeg w' a' (n + l) c' (bNames bs us) ∧ Below w.heap.size w w' := by
  have hnl := hs.1
  have hll := hu.1
  have hsz : Hid (∀ t ∈ bs, t.size ≤ 9223372036854775807) := hide hs.2.2.2.1
  have hcap := hs.2.1
  have hcm := hs.2.2.1
  have hcl := hu.2.1
  have hcl2 := hu.2.2.1
  have HS := hide hs
  have HU := hide hu
  clear hs hp hu
  obtain ⟨i0, hi, hz0, hz1, hz2⟩ := info_parts Tryz.infoStr
  have X1 : Hid ((w.alloc (Obj.cells #[Value.slice (some ad) n c, Value.slice b m d, Value.slice e l f] 32)).heap[w.heap.size]? = some (Obj.cells #[Value.slice (some ad) n c, Value.slice b m d, Value.slice e l f] 32)) := hide (hnew _ _)
  have k0 : (w.alloc (Obj.cells #[Value.slice (some ad) n c, Value.slice b m d, Value.slice e l f] 32)).cell? ⟨w.heap.size, 0, none⟩ = some (Value.slice (some ad) n c) := (Lib.cell_of_heap X1.out 0).trans rfl
  have k2 : (w.alloc (Obj.cells #[Value.slice (some ad) n c, Value.slice b m d, Value.slice e l f] 32)).cell? ⟨w.heap.size, 2, none⟩ = some (Value.slice e l f) := (Lib.cell_of_heap X1.out 2).trans rfl
  have HB : Hid (Below w.heap.size w (w.alloc (Obj.cells #[Value.slice (some ad) n c, Value.slice b m d, Value.slice e l f] 32))) := hide (bl_alloc (bl_refl w) _)
  have y1 : w.heap.size + 1 ≤ (w.alloc (Obj.cells #[Value.slice (some ad) n c, Value.slice b m d, Value.slice e l f] 32)).heap.size := by simp only [World.size_alloc]; omega
  have T1 := hide (HS.out.below HB.out)
  have R0 : ((w.alloc (Obj.cells #[Value.slice (some ad) n c, Value.slice b m d, Value.slice e l f] 32)).alloc (.cells #[] 9)).ownsRow (w.heap.size + 1) 9 1 (.slice (some ⟨w.heap.size + 1, 0, none⟩) 0 0) ([] : List ByteArray).length (([] : List ByteArray).map Value.string) := by
    have h := World.ownsRow_lit (base := w.heap.size + 1) (size := 1) (e := 9) (w.alloc (Obj.cells #[Value.slice (some ad) n c, Value.slice b m d, Value.slice e l f] 32)) #[] 0 (by simp) (by unfold maxLen; omega) rfl
    simp only [World.size_alloc] at h
    exact h
  have T2 := hide (T1.out.below (bl_alloc (bl_refl _) (Obj.cells #[] 9)))
  have y2 : w.heap.size + 1 ≤ ((w.alloc (Obj.cells #[Value.slice (some ad) n c, Value.slice b m d, Value.slice e l f] 32)).alloc (.cells #[] 9)).heap.size := by simp only [World.size_alloc]; omega
  have HB2 := hide (bl_alloc HB.out (Obj.cells #[] 9))
  have X2 := hide (hnewer X1.out (Obj.cells #[] 9))
  go_enter Tryz.func25, Tryz.ntmps25
  go_wp2_with (at_builtin; refine wp_appS rfl _ _ rfl (w.heap.size + 1) _ [] rfl R0 ad n c bs rfl T2.out (by simp; omega) y2 ?_; intro v w2 hown hgrow)
  have HG : Hid (Below w.heap.size w w2) := hide (HB2.out.grown hgrow (by omega) (fun k e => by have h : w.heap.size + 1 = k := Option.some.inj e; omega))
  have X3 := hide ((hgrow.block w.heap.size (hlt X2.out) (by intro e; have h : w.heap.size = w.heap.size + 1 := Option.some.inj e; omega)).trans X2.out)
  have HO : Hid (w2.ownsRow (w.heap.size + 1) 9 1 v (bs ++ (us.take 0).map nmOf).length ((bs ++ (us.take 0).map nmOf).map Value.string)) := hide (by simpa using hown)
  clear hown hgrow X2 HB2 y2 T2 T1 X1 HB y1 k0 k2
  go_wp2
  go_loopw [3, 4] (fun v i wr => ∃ k : Nat, k ≤ l ∧ i = .int .i64 k ∧ Hid (wr.ownsRow (w.heap.size + 1) 9 1 v (bs ++ (us.take k).map nmOf).length ((bs ++ (us.take k).map nmOf).map Value.string)) ∧ Hid (wr.heap[w.heap.size]? = some (Obj.cells #[Value.slice (some ad) n c, Value.slice b m d, Value.slice e l f] 32)) ∧ Hid (Below w.heap.size w wr)) (fun _ i _ => l - (intOf i).toNat)
  case atStart => exact ⟨0, Nat.zero_le _, rfl, HO, X3, HG⟩
  case round =>
    clear HO X3 HG
    obtain ⟨k, hk, rfl, hrow, hx, hb⟩ := hrel
    have k2 : wr.cell? ⟨w.heap.size, 2, none⟩ = some (Value.slice e l f) := (Lib.cell_of_heap hx.out 2).trans rfl
    have zx := hlt hx.out
    by_cases hlt : k < l
    · have hlt' : (k : Int) < (l : Int) := by omega
      have hkx : k < us.length := by omega
      obtain ⟨g, o, rfl, hg, hrec⟩ := (HU.out.below hb.out).at hkx
      obtain ⟨r, hr⟩ : ∃ r, us[k] = r := ⟨_, rfl⟩
      have HR := hide hr
      rw [hr] at hrec
      obtain ⟨nm1, n1, xs, m1, ys, den, qs, er⟩ := hsu r (by rw [← hr]; exact List.getElem_mem _)
      clear hr
      rw [er] at hrec
      have ER := hide er
      clear er
      obtain ⟨a1, c1, a2, c2, a3, c3, t0, t1, t2, t3, t4, t5, t6, sg1, sg2, sg3, _⟩ := openUn hrec
      clear hrec sg1 sg2 sg3 t1 t2 t3 t4 t5 t6
      have hl3 : (bs ++ (us.take k).map nmOf).length = n + k := by simp; omega
      have HL3 := hide hl3
      have hbs := hb.out.size
      have hrow' := hrow.out
      have hgx := hx
      clear hl3 hrow
      go_wp2_with (at_builtin; refine wpList_append_own _ rfl _ _ 22 rfl (w.heap.size + 1) 9 i0 (.string ⟨#[]⟩) 1 16 Tryz.underlying22 hi hz0 hz1 hz2 rfl (by decide) _ _ _ rfl (hrow'.alloc _) ⟨wr.heap.size, 0, none⟩ 1 1 [.string nm1] rfl rfl (cell_one_new _ _ _) (by simp [Value.oneCell']) (by unfold maxLen; rw [HL3.out]; omega) (by rw [HL3.out]; omega) (by simp; omega) ?_; intro v' w4 hown' hgrow _; have hg2 := (show (wr.alloc _).grownBy w4 u3.ownBlock from hgrow); clear hgrow)
      refine ⟨⟨k + 1, by omega, by go_num, hide ?_, hide ?_, hide ?_⟩, by simp [intOf]; omega⟩
      · have e : bs ++ (us.take (k + 1)).map nmOf = (bs ++ (us.take k).map nmOf) ++ [nm1] := by
          rw [List.take_succ_eq_append_getElem hkx, List.map_append, HR.out, ER.out, List.append_assoc]; rfl
        rw [e, List.length_append, List.map_append]; exact hown'
      · exact (hg2.block w.heap.size (by simp; omega) (by intro e; have := (hrow'.lt _ e.symm).1; omega)).trans (hnewer hgx.out _)
      · exact (hb.out.alloc hb.out.size _).grown hg2 (by simp; omega) (fun k e => by have := (hrow'.lt k e).1; omega)
    · obtain rfl : k = l := by omega
      have e : us.take k = us := List.take_of_length_le (by omega)
      rw [e] at hrow
      have hmz : ∀ t ∈ bs ++ us.map nmOf, t.size ≤ 9223372036854775807 := by
        intro t h
        rcases List.mem_append.1 h with h | h
        · exact hsz.out t h
        · obtain ⟨r, hr, rfl⟩ := List.mem_map.1 h
          have h1 := HU.out.2.2.2.1 r hr
          obtain ⟨nm1, n1, xs, m1, ys, den, qs, er⟩ := hsu r hr
          rw [er] at h1 ⊢
          exact h1 (.t nm1) (by simp)
      obtain ⟨a', c', hv', hseg⟩ := row_sseg hrow.out hmz
      have hm : (bs ++ us.map nmOf).length = n + k := by simp; omega
      rw [hm] at hv' hseg
      subst hv'
      have HSG := hide hseg
      clear hseg e hm hmz
      go_wp2
      go_ret
      exact ⟨a', c', rfl, HSG.out, hb.out⟩

set_option maxHeartbeats 4000000 in
set_option maxRecDepth 20000 in
theorem headsS (ad : Addr) (n c : Nat) (bs : List ByteArray) (b : Option Addr) (m d : Nat) (ps : List (List Lf)) (e : Option Addr) (l f : Nat) (us : List (List Lf)) (X Y : Nat → Prop) (w : World) (hs : SSeg w (some ad) n c bs) (hp : RSeg w X 5 b m d ps) (hsp : ∀ r ∈ ps, ShPf r) (hu : RSeg w Y 7 e l f us) (hsu : ∀ r ∈ us, ShUn r) (hm6 : m ≤ 1000) :
    Calls Tryz.prog 26 #[Value.agg #[Value.slice (some ad) n c, Value.slice b m d, Value.slice e l f]] w fun e w' => ∃ a' c', e = .returned (.slice a' m c') ∧ SSeg w' a' m c' (ps.map nmOf) ∧ Below w.heap.size w w' := by
  have hll := hp.1
  have hcl := hp.2.1
  have hcl2 := hp.2.2.1
  have HU := hide hp
  clear hs hp hu
  obtain ⟨i0, hi, hz0, hz1, hz2⟩ := info_parts Tryz.infoStr
  have X1 : Hid ((w.alloc (Obj.cells #[Value.slice (some ad) n c, Value.slice b m d, Value.slice e l f] 32)).heap[w.heap.size]? = some (Obj.cells #[Value.slice (some ad) n c, Value.slice b m d, Value.slice e l f] 32)) := hide (hnew _ _)
  have HB : Hid (Below w.heap.size w (w.alloc (Obj.cells #[Value.slice (some ad) n c, Value.slice b m d, Value.slice e l f] 32))) := hide (bl_alloc (bl_refl w) _)
  have y1 : w.heap.size + 1 ≤ (w.alloc (Obj.cells #[Value.slice (some ad) n c, Value.slice b m d, Value.slice e l f] 32)).heap.size := by simp only [World.size_alloc]; omega
  have R0 : Hid (((w.alloc (Obj.cells #[Value.slice (some ad) n c, Value.slice b m d, Value.slice e l f] 32)).alloc (.cells #[] 9)).ownsRow (w.heap.size + 1) 9 1 (.slice (some ⟨w.heap.size + 1, 0, none⟩) 0 0) ((ps.take 0).map nmOf).length (((ps.take 0).map nmOf).map Value.string)) := hide (by
    have h := World.ownsRow_lit (base := w.heap.size + 1) (size := 1) (e := 9) (w.alloc (Obj.cells #[Value.slice (some ad) n c, Value.slice b m d, Value.slice e l f] 32)) #[] 0 (by simp) (by unfold maxLen; omega) rfl
    simp only [World.size_alloc] at h
    exact h)
  have HB2 := hide (bl_alloc HB.out (Obj.cells #[] 9))
  have X2 := hide (hnewer X1.out (Obj.cells #[] 9))
  clear X1 HB
  go_enter Tryz.func26, Tryz.ntmps26
  go_wp2
  go_loopw [3, 4] (fun v i wr => ∃ k : Nat, k ≤ m ∧ i = .int .i64 k ∧ Hid (wr.ownsRow (w.heap.size + 1) 9 1 v ((ps.take k).map nmOf).length (((ps.take k).map nmOf).map Value.string)) ∧ Hid (wr.heap[w.heap.size]? = some (Obj.cells #[Value.slice (some ad) n c, Value.slice b m d, Value.slice e l f] 32)) ∧ Hid (Below w.heap.size w wr)) (fun _ i _ => m - (intOf i).toNat)
  case atStart => exact ⟨0, Nat.zero_le _, rfl, R0, X2, HB2⟩
  case round =>
    clear R0 X2 HB2
    obtain ⟨k, hk, rfl, hrow, hx, hb⟩ := hrel
    have k1 : wr.cell? ⟨w.heap.size, 1, none⟩ = some (Value.slice b m d) := (Lib.cell_of_heap hx.out 1).trans rfl
    have zx := hlt hx.out
    by_cases hlt : k < m
    · have hlt' : (k : Int) < (m : Int) := by omega
      have hkx : k < ps.length := by omega
      obtain ⟨g, o, rfl, hg, hrec⟩ := (HU.out.below hb.out).at hkx
      obtain ⟨r, hr⟩ : ∃ r, ps[k] = r := ⟨_, rfl⟩
      have HR := hide hr
      rw [hr] at hrec
      obtain ⟨nm1, n1, xs, m1, ys, er⟩ := hsp r (by rw [← hr]; exact List.getElem_mem _)
      clear hr
      rw [er] at hrec
      have ER := hide er
      clear er
      obtain ⟨a1, c1, a2, c2, t0, t1, t2, t3, t4, sg1, sg2, _⟩ := openPf hrec
      clear hrec sg1 sg2 t1 t2 t3 t4
      have hl3 : ((ps.take k).map nmOf).length = k := by simp; omega
      have HL3 := hide hl3
      have hbs := hb.out.size
      have hrow' := hrow.out
      have hgx := hx
      clear hl3 hrow
      go_wp2_with (at_builtin; refine wpList_append_own _ rfl _ _ 22 rfl (w.heap.size + 1) 9 i0 (.string ⟨#[]⟩) 1 16 Tryz.underlying22 hi hz0 hz1 hz2 rfl (by decide) _ _ _ rfl (hrow'.alloc _) ⟨wr.heap.size, 0, none⟩ 1 1 [.string nm1] rfl rfl (cell_one_new _ _ _) (by simp [Value.oneCell']) (by unfold maxLen; rw [HL3.out]; omega) (by rw [HL3.out]; omega) (by simp; omega) ?_; intro v' w4 hown' hgrow _; have hg2 := (show (wr.alloc _).grownBy w4 u3.ownBlock from hgrow); clear hgrow)
      refine ⟨⟨k + 1, by omega, by go_num, hide ?_, hide ?_, hide ?_⟩, by simp [intOf]; omega⟩
      · have e : (ps.take (k + 1)).map nmOf = (ps.take k).map nmOf ++ [nm1] := by
          rw [List.take_succ_eq_append_getElem hkx, List.map_append, HR.out, ER.out]; rfl
        rw [e, List.length_append, List.map_append]; exact hown'
      · exact (hg2.block w.heap.size (by simp; omega) (by intro e; have := (hrow'.lt _ e.symm).1; omega)).trans (hnewer hgx.out _)
      · exact (hb.out.alloc hb.out.size _).grown hg2 (by simp; omega) (fun k e => by have := (hrow'.lt k e).1; omega)
    · obtain rfl : k = m := by omega
      have e : ps.take k = ps := List.take_of_length_le (by omega)
      rw [e] at hrow
      have hmz : ∀ t ∈ ps.map nmOf, t.size ≤ 9223372036854775807 := by
        intro t h
        obtain ⟨r, hr, rfl⟩ := List.mem_map.1 h
        have h1 := HU.out.2.2.2.1 r hr
        obtain ⟨nm1, n1, xs, m1, ys, er⟩ := hsp r hr
        rw [er] at h1 ⊢
        exact h1 (.t nm1) (by simp)
      obtain ⟨a', c', hv', hseg⟩ := row_sseg hrow.out hmz
      have hm : (ps.map nmOf).length = k := by simp; omega
      rw [hm] at hv' hseg
      subst hv'
      have HSG := hide hseg
      clear hseg e hm hmz
      go_wp2
      go_ret
      exact ⟨a', c', rfl, HSG.out, hb.out⟩

end Go.Proofs.YtnjaejaibbgkpaaGreat

/- The specification's BookOk: the walk. -/
namespace Go.Proofs.YtnjaejaibbgkpaaGreat
open Go.RowKit
set_option linter.unusedVariables false
set_option maxRecDepth 20000

set_option maxHeartbeats 4000000 in
set_option maxRecDepth 20000 in
theorem bookOkS (ad : Addr) (n c : Nat) (bs : List ByteArray) (b : Option Addr) (m d : Nat) (ps : List (List Lf)) (e : Option Addr) (l f : Nat) (us : List (List Lf)) (X Y : Nat → Prop) (w : World) (hs : SSeg w (some ad) n c bs) (hp : RSeg w X 5 b m d ps) (hsp : ∀ r ∈ ps, ShPf r) (hu : RSeg w Y 7 e l f us) (hsu : ∀ r ∈ us, ShUn r) (ht : stot bs + (rtot ps + rtot us) ≤ 1048576) :
    Calls Tryz.prog 6 #[Value.agg #[Value.slice (some ad) n c, Value.slice b m d, Value.slice e l f]] w fun e w' => Tells (BookP bs ps us) e ∧ Below w.heap.size w w' := by
  have hnl := hs.1
  have hml := hp.1
  have hll := hu.1
  have hn2 : n ≤ 9223372036854775807 := Nat.le_trans hs.2.1 hs.2.2.1
  have hm2 := hp.le
  have hl2 := hu.le
  have hcp := hp.2.1
  have hcp2 := hp.2.2.1
  have hcl := hu.2.1
  have hcl2 := hu.2.2.1
  have HS := hide hs
  have HP := hide hp
  have HU := hide hu
  clear hs hp hu
  have X1 : Hid ((w.alloc (Obj.cells #[Value.slice (some ad) n c, Value.slice b m d, Value.slice e l f] 32)).heap[w.heap.size]? = some (Obj.cells #[Value.slice (some ad) n c, Value.slice b m d, Value.slice e l f] 32)) := hide (hnew _ _)
  have k0 : (w.alloc (Obj.cells #[Value.slice (some ad) n c, Value.slice b m d, Value.slice e l f] 32)).cell? ⟨w.heap.size, 0, none⟩ = some (Value.slice (some ad) n c) := (Lib.cell_of_heap X1.out 0).trans rfl
  have k1 : (w.alloc (Obj.cells #[Value.slice (some ad) n c, Value.slice b m d, Value.slice e l f] 32)).cell? ⟨w.heap.size, 1, none⟩ = some (Value.slice b m d) := (Lib.cell_of_heap X1.out 1).trans rfl
  have k2 : (w.alloc (Obj.cells #[Value.slice (some ad) n c, Value.slice b m d, Value.slice e l f] 32)).cell? ⟨w.heap.size, 2, none⟩ = some (Value.slice e l f) := (Lib.cell_of_heap X1.out 2).trans rfl
  have HB : Hid (Below w.heap.size w (w.alloc (Obj.cells #[Value.slice (some ad) n c, Value.slice b m d, Value.slice e l f] 32))) := hide (bl_alloc (bl_refl w) _)
  by_cases h6 : (6 : Int) < (n : Int)
  · go_enter Tryz.func6, Tryz.ntmps6
    go_wp2
    go_ret
    exact ⟨tell_no (fun h => by have := h.1; omega), HB.out⟩
  by_cases h12 : (12 : Int) < (m : Int)
  · go_enter Tryz.func6, Tryz.ntmps6
    go_wp2
    go_ret
    exact ⟨tell_no (fun h => by have := h.2.1; omega), HB.out⟩
  by_cases h24 : (24 : Int) < (l : Int)
  · go_enter Tryz.func6, Tryz.ntmps6
    go_wp2
    go_ret
    exact ⟨tell_no (fun h => by have := h.2.2.1; omega), HB.out⟩
  go_enter Tryz.func6, Tryz.ntmps6
  go_wp2
  generalize w.alloc (Obj.cells #[Value.slice (some ad) n c, Value.slice b m d, Value.slice e l f] 32) = w1 at *
  clear k0 k1 k2
  go_loopw [3] (fun i wr => ∃ k : Nat, k ≤ m ∧ i = .int .i64 k ∧ Hid (AllPf ps k) ∧ Hid (wr.heap[w.heap.size]? = some (Obj.cells #[Value.slice (some ad) n c, Value.slice b m d, Value.slice e l f] 32)) ∧ Hid (Below w.heap.size w wr)) (fun i _ => m - (intOf i).toNat)
  case atStart => exact ⟨0, Nat.zero_le _, rfl, hide (fun j _ h => absurd h (Nat.not_lt_zero _)), X1, HB⟩
  case round =>
    clear X1 HB
    obtain ⟨k, hk, rfl, hf, hx, hb⟩ := hrel
    have k0 : wr.cell? ⟨w.heap.size, 0, none⟩ = some (Value.slice (some ad) n c) := (Lib.cell_of_heap hx.out 0).trans rfl
    have k1 : wr.cell? ⟨w.heap.size, 1, none⟩ = some (Value.slice b m d) := (Lib.cell_of_heap hx.out 1).trans rfl
    have k2 : wr.cell? ⟨w.heap.size, 2, none⟩ = some (Value.slice e l f) := (Lib.cell_of_heap hx.out 2).trans rfl
    have zx := hlt hx.out
    by_cases hlm : k < m
    · have hlt' : (k : Int) < (m : Int) := by omega
      have hkx : k < ps.length := by omega
      obtain ⟨g, o, rfl, hg, hrec⟩ := (HP.out.below hb.out).at hkx
      obtain ⟨r, hr⟩ : ∃ r, ps[k] = r := ⟨_, rfl⟩
      have HR := hide hr
      rw [hr] at hrec
      obtain ⟨nm1, n1, xs, m1, ys, er⟩ := hsp r (by rw [← hr]; exact List.getElem_mem _)
      clear hr
      rw [er] at hrec
      have ER := hide er
      clear er
      obtain ⟨a1, c1, a2, c2, t0, t1, t2, t3, t4, sg1, sg2, _⟩ := openPf hrec
      have hvb : Hid (pfB ps[k] = aboveB n1 xs m1 ys) := hide (by rw [HR.out, ER.out]; rfl)
      have t2' : wr.cell? ⟨g, o + k * 5 + 1 + 1, none⟩ = _ := t2
      have t3' : wr.cell? ⟨g, o + k * 5 + 1 + 2, none⟩ = _ := t3
      have t4' : wr.cell? ⟨g, o + k * 5 + 1 + 3, none⟩ = _ := t4
      have H1 := hide sg1
      have H2 := hide sg2
      clear hrec sg1 sg2
      go_wp2_with fail
      refine (aboveS n1 xs m1 ys a1 c1 a2 c2 wr H1.out H2.out).mono ?_
      rintro e w2 ⟨rfl, hb2⟩
      have HB := hide (bl_trans hb.out hb2)
      replace hx := hide (hbel hx.out hb2 zx)
      clear hb2 t0 t1 t2 t3 t4 t2' t3' t4' H1 H2 k0 k1 k2
      cases ha : aboveB n1 xs m1 ys with
      | false =>
        have HA : Hid (pfB ps[k] = false) := hide (by rw [hvb.out, ha])
        clear ha
        go_wp2
        go_ret
        exact ⟨tell_no (fun h => by have := h.2.2.2.1 k hkx hkx; rw [HA.out] at this; cases this), HB.out⟩
      | true =>
        have HA : Hid (AllPf ps (k + 1)) := hide (fun i hi hik => by
          by_cases e : i = k
          · subst e; rw [hvb.out, ha]
          · exact hf.out i hi (by omega))
        clear ha
        go_wp2
        exact ⟨⟨k + 1, by omega, by go_num, HA, hx, HB⟩, by simp [intOf]; omega⟩
    · obtain rfl : k = m := by omega
      have HPF := hf
      go_wp2
      clear k0 k1 k2 zx hf
      go_loopw [4] (fun i wr => ∃ j : Nat, j ≤ l ∧ i = .int .i64 j ∧ Hid (AllUn us bs.length j) ∧ Hid (wr.heap[w.heap.size]? = some (Obj.cells #[Value.slice (some ad) n c, Value.slice b k d, Value.slice e l f] 32)) ∧ Hid (Below w.heap.size w wr)) (fun i _ => l - (intOf i).toNat)
      case atStart => exact ⟨0, Nat.zero_le _, rfl, hide (fun j _ h => absurd h (Nat.not_lt_zero _)), hx, hb⟩
      case round =>
        rename_i wo
        clear hx hb
        obtain ⟨j, hj, rfl, hf, hx, hb⟩ := hrel
        have k0 : wr.cell? ⟨w.heap.size, 0, none⟩ = some (Value.slice (some ad) n c) := (Lib.cell_of_heap hx.out 0).trans rfl
        have k1 : wr.cell? ⟨w.heap.size, 1, none⟩ = some (Value.slice b k d) := (Lib.cell_of_heap hx.out 1).trans rfl
        have k2 : wr.cell? ⟨w.heap.size, 2, none⟩ = some (Value.slice e l f) := (Lib.cell_of_heap hx.out 2).trans rfl
        have zx := hlt hx.out
        by_cases hlj : j < l
        · have hlt' : (j : Int) < (l : Int) := by omega
          have hkx : j < us.length := by omega
          obtain ⟨g, o, rfl, hg, hrec⟩ := (HU.out.below hb.out).at hkx
          obtain ⟨r, hr⟩ : ∃ r, us[j] = r := ⟨_, rfl⟩
          have HR := hide hr
          rw [hr] at hrec
          obtain ⟨nm1, n1, xs, m1, ys, den, qs, er⟩ := hsu r (by rw [← hr]; exact List.getElem_mem _)
          clear hr
          rw [er] at hrec
          have ER := hide er
          clear er
          obtain ⟨a1, c1, a2, c2, a3, c3, t0, t1, t2, t3, t4, t5, t6, sg1, sg2, sg3, _⟩ := openUn hrec
          have q3 := V.Seg.le sg3
          have hvb : Hid (varB us[j] bs.length = (aboveB n1 xs m1 ys && vokB7 den qs bs.length)) := hide (by rw [HR.out, ER.out]; rfl)
          have H1 := hide sg1
          have H2 := hide sg2
          have H3 := hide sg3
          clear hrec sg1 sg2 sg3
          go_wp2_with fail
          have kx : Hid ((wr.alloc (Obj.cells #[Value.string nm1, Value.bool n1, Value.slice a1 xs.length c1, Value.bool m1, Value.slice a2 ys.length c2, Value.int .i64 den, Value.slice a3 qs.length c3] 59)).heap[wr.heap.size]? = some (Obj.cells #[Value.string nm1, Value.bool n1, Value.slice a1 xs.length c1, Value.bool m1, Value.slice a2 ys.length c2, Value.int .i64 den, Value.slice a3 qs.length c3] 59)) := hide (hnew _ _)
          have hbx := hide ((bl_refl wr).alloc (Nat.le_refl _) (Obj.cells #[Value.string nm1, Value.bool n1, Value.slice a1 xs.length c1, Value.bool m1, Value.slice a2 ys.length c2, Value.int .i64 den, Value.slice a3 qs.length c3] 59))
          have hyx : wr.heap.size + 1 ≤ (wr.alloc (Obj.cells #[Value.string nm1, Value.bool n1, Value.slice a1 xs.length c1, Value.bool m1, Value.slice a2 ys.length c2, Value.int .i64 den, Value.slice a3 qs.length c3] 59)).heap.size := by simp only [World.size_alloc]; omega
          generalize wr.alloc (Obj.cells #[Value.string nm1, Value.bool n1, Value.slice a1 xs.length c1, Value.bool m1, Value.slice a2 ys.length c2, Value.int .i64 den, Value.slice a3 qs.length c3] 59) = w1 at *
          replace H1 := hide (H1.out.below hbx.out)
          replace H2 := hide (H2.out.below hbx.out)
          replace H3 := hide (H3.out.below hbx.out)
          replace hx := hide (hbel hx.out hbx.out zx)
          clear t0 t1 t2 t3 t4 t5 t6 k0 k1 k2
          refine (aboveS n1 xs m1 ys a1 c1 a2 c2 w1 H1.out H2.out).mono ?_
          rintro e w2 ⟨rfl, hb2⟩
          have hyy := hb2.size
          have HB := hide (bl_trans (bl_trans hb.out hbx.out) hb2)
          replace kx := hide (hbel kx.out hb2 (by omega))
          replace hx := hide (hbel hx.out hb2 (by omega))
          replace H3 := hide (H3.out.below hb2)
          have k5 : w2.cell? ⟨wr.heap.size, 5, none⟩ = some (Value.int .i64 den) := (Lib.cell_of_heap kx.out 5).trans rfl
          have k6 : w2.cell? ⟨wr.heap.size, 6, none⟩ = some (Value.slice a3 qs.length c3) := (Lib.cell_of_heap kx.out 6).trans rfl
          clear hb2 hbx H1 H2
          cases ha : aboveB n1 xs m1 ys with
          | false =>
            have HA : Hid (varB us[j] bs.length = false) := hide (by rw [hvb.out, ha]; rfl)
            clear ha
            go_wp2
            go_ret
            exact ⟨tell_no (fun h => by have := h.2.2.2.2.1 j hkx hkx; rw [HA.out] at this; cases this), HB.out⟩
          | true =>
            have HA : Hid (varB us[j] bs.length = vokB7 den qs bs.length) := hide (by rw [hvb.out, ha]; rfl)
            clear ha
            go_wp2_with fail
            refine (V.vecOkS den a3 c3 qs w2 H3.out).mono ?_
            rintro e w3 ⟨rfl, hb3⟩
            have hyz := hb3.size
            replace HB := hide (bl_trans HB.out hb3)
            replace kx := hide (hbel kx.out hb3 (by omega))
            replace hx := hide (hbel hx.out hb3 (by omega))
            clear k5 k6
            have k6 : w3.cell? ⟨wr.heap.size, 6, none⟩ = some (Value.slice a3 qs.length c3) := (Lib.cell_of_heap kx.out 6).trans rfl
            have k0 : w3.cell? ⟨w.heap.size, 0, none⟩ = some (Value.slice (some ad) n c) := (Lib.cell_of_heap hx.out 0).trans rfl
            clear hb3 H3
            cases hv : V.vokB den qs with
            | false =>
              have HV : Hid (varB us[j] bs.length = false) := hide (by rw [HA.out]; unfold vokB7; rw [hv]; rfl)
              clear hv
              go_wp2
              go_ret
              exact ⟨tell_no (fun h => by have := h.2.2.2.2.1 j hkx hkx; rw [HV.out] at this; cases this), HB.out⟩
            | true =>
              by_cases hq : (qs.length : Int) = (n : Int)
              · have HV : Hid (AllUn us bs.length (j + 1)) := hide (fun i hi hik => by
                  by_cases e : i = j
                  · subst e; rw [HA.out]; unfold vokB7; rw [hv, decide_eq_true (by omega)]; rfl
                  · exact hf.out i hi (by omega))
                have hl2 : ((qs.length : Int) != (n : Int)) = false := by rw [bne_eq_false_iff_eq]; exact hq
                clear hv hq
                go_wp2
                exact ⟨⟨j + 1, by omega, by go_num, HV, hx, HB⟩, by simp [intOf]; omega⟩
              · have HV : Hid (varB us[j] bs.length = false) := hide (by rw [HA.out]; unfold vokB7; rw [hv, decide_eq_false (by omega)]; rfl)
                have hl2 : ((qs.length : Int) != (n : Int)) = true := by simp only [bne_iff_ne]; exact hq
                clear hv hq
                go_wp2
                go_ret
                exact ⟨tell_no (fun h => by have := h.2.2.2.2.1 j hkx hkx; rw [HV.out] at this; cases this), HB.out⟩
        · obtain rfl : j = l := by omega
          go_wp2_with fail
          clear k0 k1 k2
          refine (namesS ad n c bs b k d ps e j f us X Y wr (HS.out.below hb.out) (HP.out.below hb.out) hsp (HU.out.below hb.out) hsu (by omega) (by omega)).mono ?_
          rintro e2 w2 ⟨a', c', rfl, hseg, hb2⟩
          have hyy := hb2.size
          have HSG := hide hseg
          replace hb := hide (bl_trans hb.out hb2)
          replace hx := hide (hbel hx.out hb2 zx)
          clear hseg hb2
          go_wp2_with fail
          have hmz1 : ∀ t ∈ bNames bs us, t.size ≤ 140737488355328 := fun t h => by
            have := stot_mem h
            have := stot_names bs us
            omega
          have hmz2 : ∀ t ∈ ps.map nmOf, t.size ≤ 140737488355328 := fun t h => by
            have := stot_mem h
            have := stot_heads ps
            omega
          refine (twiceS a' _ c' (bNames bs us) w2 HSG.out hmz1).mono ?_
          rintro e3 w3 ⟨b1, rfl, hb1, hb3⟩
          have hyz := hb3.size
          have HB1 := hide hb1
          replace hb := hide (bl_trans hb.out hb3)
          replace hx := hide (hbel hx.out hb3 (by omega))
          clear hb3 hb1 HSG
          cases b1 with
          | true =>
            go_wp2
            go_ret
            exact ⟨tell_no (fun h => by have := HB1.out.2 h.2.2.2.2.2.1; cases this), hb.out⟩
          | false =>
            have k0 : w3.cell? ⟨w.heap.size, 0, none⟩ = some (Value.slice (some ad) n c) := (Lib.cell_of_heap hx.out 0).trans rfl
            have k1 : w3.cell? ⟨w.heap.size, 1, none⟩ = some (Value.slice b k d) := (Lib.cell_of_heap hx.out 1).trans rfl
            have k2 : w3.cell? ⟨w.heap.size, 2, none⟩ = some (Value.slice e j f) := (Lib.cell_of_heap hx.out 2).trans rfl
            go_wp2_with fail
            clear k0 k1 k2
            refine (headsS ad n c bs b k d ps e j f us X Y w3 (HS.out.below hb.out) (HP.out.below hb.out) hsp (HU.out.below hb.out) hsu (by omega)).mono ?_
            rintro e4 w4 ⟨a2, c2, rfl, hseg, hb4⟩
            have HSG := hide hseg
            replace hb := hide (bl_trans hb.out hb4)
            clear hseg hb4
            go_wp2_with fail
            refine (twiceS a2 _ c2 (ps.map nmOf) w4 HSG.out hmz2).mono ?_
            rintro e5 w5 ⟨b2, rfl, hb2, hb5⟩
            have HB2 := hide hb2
            replace hb := hide (bl_trans hb.out hb5)
            clear hb5 hb2
            go_wp2
            go_ret
            refine ⟨⟨!b2, rfl, ?_⟩, hb.out⟩
            have e2 : (!b2) = true ↔ b2 = false := by cases b2 <;> simp
            rw [e2, HB2.out]
            refine ⟨fun h => ⟨by omega, by omega, by omega, by have := HPF.out; rw [← hml] at this; exact this, by have := hf.out; rw [← hll] at this; exact this, HB1.out.1 (by simp), h⟩, fun h => h.2.2.2.2.2.2⟩

end Go.Proofs.YtnjaejaibbgkpaaGreat
