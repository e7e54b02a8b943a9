/- My texts Times, Sum, in this order. -/
import Derived.Test.YthjapjbiclkhcaaPk04
import Derived.Laws.CopyOwn
/- The walk of addTimes: a part of a block of limbs turns into its sum with a list times a limb; no other block turns. -/
namespace Go.Proofs.Ythjapjbiclkhcaa
open Go.RowKit
set_option linter.unusedVariables false

/-- the number so far -/
def TSo (f : Nat) (seg ps zs : List Nat) (k c : Nat) : Prop :=
  zs.length = k ∧ Num.Small zs ∧ c < 4294967296 ∧ Num.nat zs + 4294967296 ^ k * c = Num.nat (seg.take k) + f * Num.nat (ps.take k)
theorem tso_step {f : Nat} {seg ps zs : List Nat} {k c l p t : Nat} (h : TSo f seg ps zs k c) (hl : seg.getD k 0 = l) (hp : ps.getD k 0 = p) (ht : t = f * p + l + c) (hb : t / 4294967296 < 4294967296) :
    TSo f seg ps (zs ++ [t % 4294967296]) (k + 1) (t / 4294967296) := by
  obtain ⟨h1, h2, h3, h4⟩ := h
  refine ⟨by simp [h1], Num.small_append h2 (by intro y hy; simp at hy; subst hy; exact Nat.mod_lt _ (by decide)), hb, ?_⟩
  rw [Num.nat_append, nat_take_getD seg k, nat_take_getD ps k, hl, hp, h1, Nat.pow_succ]
  have e0 : Num.nat [t % 4294967296] = t % 4294967296 := by simp [Num.nat]
  have e1 : 4294967296 ^ k * (t % 4294967296) + 4294967296 ^ k * 4294967296 * (t / 4294967296) = 4294967296 ^ k * t := by
    rw [Nat.mul_assoc, ← Nat.mul_add, Nat.mod_add_div]
  rw [e0, Nat.add_assoc, e1, ht, Nat.mul_add, Nat.mul_add, Nat.mul_add, ← Nat.mul_assoc f, Nat.mul_comm f (4294967296 ^ k), Nat.mul_assoc (4294967296 ^ k) f p]
  generalize 4294967296 ^ k * (f * p) = A at *
  generalize 4294967296 ^ k * l = B at *
  generalize 4294967296 ^ k * c = C at *
  generalize f * Num.nat (ps.take k) = D at *
  omega
theorem take_mid {Y zs : List Nat} {i m c : Nat} (hz : zs.length = m) (hi : i + m + 1 ≤ Y.length) : (Y.take i ++ (zs ++ [c]) ++ Y.drop (i + (m + 1))).length = Y.length := by
  simp; omega
theorem prod_step {xs bs Y zs : List Nat} {i c : Nat} (hi : i < xs.length) (hY : Y.length = xs.length + bs.length) (h0 : Num.nat (Y.drop (i + bs.length)) = 0) (hn : Num.nat Y = Num.nat (xs.take i) * Num.nat bs) (hT : TSo (xs[i]) (Y.drop i) bs zs bs.length c) :
    (Y.take i ++ (zs ++ [c]) ++ Y.drop (i + (bs.length + 1))).length = xs.length + bs.length ∧ Num.nat ((Y.take i ++ (zs ++ [c]) ++ Y.drop (i + (bs.length + 1))).drop (i + 1 + bs.length)) = 0 ∧
      Num.nat (Y.take i ++ (zs ++ [c]) ++ Y.drop (i + (bs.length + 1))) = Num.nat (xs.take (i + 1)) * Num.nat bs := by
  obtain ⟨h1, h2, h3, h4⟩ := hT
  have hlen := take_mid (c := c) (Y := Y) (i := i) h1 (by omega)
  have hd := Num.nat_drop Y (i + bs.length) (by omega)
  rw [h0] at hd
  have hd1 : Num.nat (Y.drop (i + bs.length + 1)) = 0 := by omega
  have hpre : (Y.take i ++ (zs ++ [c])).length = i + 1 + bs.length := by simp; omega
  have hdrop : (Y.take i ++ (zs ++ [c]) ++ Y.drop (i + (bs.length + 1))).drop (i + 1 + bs.length) = Y.drop (i + (bs.length + 1)) := by
    rw [List.drop_append_of_le_length (by omega), List.drop_eq_nil_of_le (by omega), List.nil_append]
  refine ⟨hlen.trans hY, ?_, ?_⟩
  · rw [hdrop]; exact hd1
  · have e1 : Num.nat (Y.take i ++ (zs ++ [c]) ++ Y.drop (i + (bs.length + 1))) = Num.nat (Y.take i ++ (zs ++ [c])) := by
      rw [Num.nat_append, show Num.nat (Y.drop (i + (bs.length + 1))) = 0 from hd1]; omega
    have e2 : Num.nat (Y.take i ++ (zs ++ [c])) = Num.nat (Y.take i) + 4294967296 ^ i * (Num.nat zs + 4294967296 ^ bs.length * c) := by
      rw [Num.nat_append, Num.nat_append, h1, List.length_take, Nat.min_eq_left (by omega), show Num.nat [c] = c from by simp [Num.nat]]
    have e3 : Num.nat Y = Num.nat (Y.take i) + 4294967296 ^ i * Num.nat ((Y.drop i).take bs.length) := by
      rw [Num.nat_take_drop Y i (by omega), Num.nat_take_drop (Y.drop i) bs.length (by simp; omega), List.drop_drop, h0]
      rfl
    rw [List.take_of_length_le (Nat.le_refl _)] at h4
    rw [e1, e2, h4, Nat.mul_add, ← Nat.add_assoc, ← e3, hn, Num.nat_take_succ xs i hi, Nat.add_mul, Nat.mul_assoc]
theorem drop_getD {ys : List Nat} {o k : Nat} (h : o + k < ys.length) : (ys.drop o).getD k 0 = ys[o + k] := by
  simp [List.getD, List.getElem?_drop, h]
theorem prod_le {a b : Nat} (ha : a < 4294967296) (hb : b < 4294967296) : a * b ≤ 18446744065119617025 := by
  have := Nat.mul_le_mul (show a ≤ 4294967295 by omega) (show b ≤ 4294967295 by omega)
  exact Nat.le_trans this (by decide)

set_option maxHeartbeats 4000000 in
set_option maxRecDepth 20000 in
theorem timesI (f g o n cap : Nat) (ys : List Nat) (b : Option Addr) (m cb : Nat) (ps : List Nat) (w : World) (hf : f < 4294967296) (hB : Blk w g ys) (ho : o + n ≤ ys.length) (hn : n ≤ cap) (hcm : cap ≤ 9223372036854775807) (hmn : m < n) (hP : Seg w b m cb ps) (hne : 0 < m → ∀ gb ob s, b = some ⟨gb, ob, s⟩ → gb ≠ g) :
    Calls Try.prog 85 #[.slice (some ⟨g, o, none⟩) n cap, .slice b m cb, .int .u32 f] w fun e w' => ∃ (zs : List Nat) (c : Nat), TSo f (ys.drop o) ps zs m c ∧ e = .returned (.tuple #[]) ∧ Blk w' g (ys.take o ++ (zs ++ [c]) ++ ys.drop (o + (m + 1))) ∧ w.grownBy w' (some g) := by
  obtain rfl := hP.1
  have hb1 := hP.2.1
  have hb2 := hP.2.2.1
  have HP := hide hP
  have HB := hide hB
  have HNE := hide hne
  clear hP hB hne
  go_enter Try.func85, Try.ntmps85
  go_wp2
  go_loopw [6, 7, 8, 11] (fun cv _ _ i wr => ∃ (k c : Nat) (zs : List Nat), k ≤ ps.length ∧ i = .int .i64 k ∧ cv = .int .u64 c ∧ c < 4294967296 ∧ Hid (TSo f (ys.drop o) ps zs k c) ∧ Hid (Blk wr g (ys.take o ++ zs ++ ys.drop (o + k))) ∧ Hid (w.grownBy wr (some g))) (fun _ _ _ i _ => ps.length - (intOf i).toNat)
  case atStart => exact ⟨0, 0, [], Nat.zero_le _, rfl, rfl, by omega, hide ⟨rfl, (fun x hx => by cases hx), by omega, by simp [Num.nat]⟩, hide (by have := HB.out; simpa using this), hide ⟨rfl, rfl, rfl, Nat.le_refl _, fun _ _ _ => rfl⟩⟩
  case round =>
    obtain ⟨k, c, zs, hk, rfl, rfl, hc, hS, hbk, hg⟩ := hrel
    have hzl := hS.out.1
    have hfz := hbk.out.frozen (o + k)
    have hls : ys[o + k]'(by omega) < 4294967296 := Num.small_at HB.out.2 (by omega)
    have hcl := hbk.out.cell (o + k) (by rw [mid_len hzl (by omega)]; omega)
    rw [mid_at hzl (by omega)] at hcl
    have HLD : Hid ((ys.drop o).getD k 0 = ys[o + k]'(by omega)) := hide (drop_getD (by omega))
    have HST := hide (fun x hx => hbk.out.set (o + k) x hx)
    have HMS := hide (fun x => mid_set (x := x) hzl (show o + k < ys.length by omega))
    generalize ys[o + k]'_ = l at *
    by_cases hlt : k < ps.length
    · have hlt' : (k : Int) < (ps.length : Int) := by omega
      have hkn : (k : Int) < (n : Int) := by omega
      obtain ⟨g', o', rfl, hg', hc2⟩ := seg_cell (HP.out.grown hg.out (fun gb ob s e => by have := HNE.out (by omega) gb ob s e; simp; omega)) k hlt
      have hps := Num.small_at HP.out.2.2.2.1 hlt
      have HPD : Hid (ps.getD k 0 = ps[k]) := hide (by simp [hlt])
      generalize ps[k] = p at *
      have hMb := prod_le hf hps
      have hM0 : (f : Int) * (p : Int) = ((f * p : Nat) : Int) := (Int.natCast_mul f p).symm
      have HTS := hide (fun hb => tso_step (t := f * p + l + c) hS.out HLD.out HPD.out rfl hb)
      clear hS
      generalize f * p = M at *
      go_wp2
      refine ⟨⟨k + 1, (M + l + c) / 4294967296, zs ++ [(M + l + c) % 4294967296], by omega, by go_num, by go_num, by omega, hide (HTS.out (by omega)), ?_⟩, by simp [intOf]; omega⟩
      have hs := HST.out ((M + l + c) % 4294967296) (by omega)
      rw [HMS.out] at hs
      have ev : ((c : Int) + ((M : Int) + (l : Int))) % 4294967296 = (((M + l + c) % 4294967296 : Nat) : Int) := by omega
      rw [ev]
      exact ⟨hide hs.1, hide (grown_trans hg.out hs.2)⟩
    · obtain rfl : k = ps.length := by omega
      have hkn : (ps.length : Int) < (n : Int) := by omega
      go_wp2
      go_end0
      have hs := HST.out c hc
      rw [HMS.out] at hs
      exact ⟨zs, c, hS.out, rfl, hs.1, grown_trans hg.out hs.2⟩
end Go.Proofs.Ythjapjbiclkhcaa

/- The walks of bigSum and bigDifference: the sum of two numbers of any size, in new memory. -/
namespace Go.Proofs.Ythjapjbiclkhcaa
open Go.RowKit
set_option linter.unusedVariables false

theorem lims_at {xs : List Nat} {j : Nat} {u : Value} (h : (xs.map lim)[j]? = some u) : ∃ hj : j < xs.length, u = .int .u32 xs[j] := by
  have hj : j < xs.length := by have := (List.getElem?_eq_some_iff.1 h).1; simpa using this
  exact ⟨hj, by have := (List.getElem?_eq_some_iff.1 h).2; simp [lim] at this; exact this.symm⟩
theorem seg_low {W : World} {b : Option Addr} {m cb : Nat} {ps : List Nat} (h : Seg W b m cb ps) (hm : 0 < m) {gb ob : Nat} {s : Option Nat} (e : b = some ⟨gb, ob, s⟩) : gb < W.heap.size := by
  rcases h.2.2.2.2 with h0 | ⟨g, o, ha, hg, _⟩
  · omega
  · rw [ha] at e; cases e; exact hg
theorem sum_val0 {t : Bool} {X Y nz c B D : Nat} (hX : X < B) (hBD : 2 * B ≤ D) (hXY : Y ≤ X) (hz : nz < D) (h3 : c = 0 ∨ c = 1) (h4 : if t = true then nz + Y + D * c = X + D else nz + D * c = X + Y) : nz = if t = true then X - Y else X + Y := by
  cases t with
  | false =>
    rw [if_neg (by simp)] at h4 ⊢
    rcases h3 with rfl | rfl
    · rw [Nat.mul_zero] at h4; omega
    · rw [Nat.mul_one] at h4; omega
  | true =>
    rw [if_pos rfl] at h4 ⊢
    rcases h3 with rfl | rfl
    · rw [Nat.mul_zero] at h4; omega
    · rw [Nat.mul_one] at h4; omega
theorem pw_two (n : Nat) : 2 * 4294967296 ^ n ≤ 4294967296 ^ (n + 1) := by
  rw [Nat.pow_succ, Nat.mul_comm]; exact Nat.mul_le_mul_left _ (by decide)
theorem zero_or_one {c : Nat} (h : c ≤ 1) : c = 0 ∨ c = 1 := by omega
theorem nat_snoc0 (xs : List Nat) : Num.nat (xs ++ [0]) = Num.nat xs := by
  rw [Num.nat_append, show Num.nat [0] = 0 from rfl, Nat.mul_zero, Nat.add_zero]
theorem rep_drop (n : Nat) : (List.replicate (n + 1) 0).drop n = [0] := by
  rw [List.drop_replicate, Nat.add_sub_cancel_left]; rfl
theorem sum_val {t : Bool} {X Y : Nat} {zs : List Nat} {c : Nat} (h : Sofar t (((Num.limbs X ++ (List.replicate ((Num.limbs X).length + 1) 0).drop (Num.limbs X).length).drop 0).take ((Num.limbs X).length + 1)) (Num.limbs Y) zs ((Num.limbs X).length + 1) c) (hXY : Y ≤ X) :
    Num.nat zs = if t = true then X - Y else X + Y := by
  obtain ⟨h1, h2, h3, h4⟩ := h
  have hX : X < 4294967296 ^ (Num.limbs X).length := Num.limbs_len.1 (Nat.le_refl _)
  have hYl : (Num.limbs Y).length ≤ (Num.limbs X).length := Num.limbs_len.2 (Nat.lt_of_le_of_lt hXY hX)
  have hz := Num.nat_lt h2
  rw [h1] at hz
  have e1 : (Num.limbs X ++ [0]).take ((Num.limbs X).length + 1) = Num.limbs X ++ [0] := List.take_of_length_le (by rw [List.length_append]; exact Nat.le_refl _)
  rw [rep_drop, List.drop_zero, e1, e1, List.take_of_length_le (Nat.le_succ_of_le hYl), nat_snoc0, Num.nat_limbs, Num.nat_limbs] at h4
  exact sum_val0 hX (pw_two _) hXY hz (zero_or_one h3) h4
theorem sum_own {W : World} {g n base : Nat} {X zs : List Nat} (hB : Blk W g ((X ++ (List.replicate (X.length + 1) 0).drop X.length).take 0 ++ zs ++ (X ++ (List.replicate (X.length + 1) 0).drop X.length).drop (0 + n))) (hz : zs.length = n) (hn : n = X.length + 1) (hb : base ≤ g) (hm : n ≤ 9223372036854775807) : Own W base (some ⟨g, 0, none⟩) n n zs := by
  have e : (X ++ (List.replicate (X.length + 1) 0).drop X.length).take 0 ++ zs ++ (X ++ (List.replicate (X.length + 1) 0).drop X.length).drop (0 + n) = zs := by
    rw [rep_drop, List.drop_eq_nil_of_le (by simp; omega)]; simp
  rw [e] at hB
  subst hz
  exact hB.own hb hm
theorem sum_sign (n1 n2 : Bool) (x y : Nat) (h : y ≤ x) : mk n1 (if (!n1 == n2) = true then x - y else x + y) = mk n1 x + mk n2 y := by
  cases n1 <;> cases n2 <;> simp [mk] <;> omega
theorem sum_sign2 (n1 n2 : Bool) (x y : Nat) (h : x ≤ y) : mk n2 (if (!n2 == n1) = true then y - x else y + x) = mk n1 x + mk n2 y := by
  cases n1 <;> cases n2 <;> simp [mk] <;> omega
theorem own_made2 {W : World} {base : Nat} {a : Option Addr} {n : Nat} (h : W.ownsRow base 56 1 (.slice a n n) n (madeCells (Value.int IntKind.u32 0).cells (n * 1)).toList) : Own W base a n n (List.replicate n 0) := by
  rw [Nat.mul_one] at h; exact own_made h
theorem Try.size56 : (Try.prog.info? 56).map (·.size) = some 1 := by kernel_rfl
/-- a copy of limbs into the head of a block -/
theorem wpList_copy_lim {P : Program} {w : World} {ops : Array Oper} {rest : List Oper} {o : Oper} {a : Act} {Q : Exit → Act → World → Prop} (hgd : o.guard = none) (d s : Operand) (dT sT : TypeId)
    (ho : o.op = .call { callee := .builtin .copy, args := #[d, s], argTypes := #[dT, sT] }) (hu : P.underlying dT = some (.slice 56)) (hsz : (P.info? 56).map (·.size) = some 1)
    (g dLen dCap : Nat) (b : Option Addr) (n cb : Nat) (hd : a.eval d = .slice (some ⟨g, 0, none⟩) dLen dCap) (hs : a.eval s = .slice b n cb)
    (ys xs : List Nat) (hB : Blk w g ys) (hl : ys.length = dLen) (hS : Seg w b n cb xs) (hn : n ≤ dLen)
    (h : ∀ w', Blk w' g (xs ++ ys.drop n) → w.grownBy w' (some g) → wpList P ops Q rest (a.put o.dst (goInt n)) w') : wpList P ops Q (o :: rest) a w := by
  have hx := hS.1
  rcases hS.2.2.2.2 with h0 | ⟨g', o', rfl, hg', hc⟩
  · subst h0
    refine wpList_copy_nothing hgd d s dT sT ho 56 hu hsz _ _ _ _ _ _ hd hs (by simp) (h w ?_ ⟨rfl, rfl, rfl, Nat.le_refl _, fun _ _ _ => rfl⟩)
    have : xs = [] := List.eq_nil_of_length_eq_zero hx
    subst this
    simpa using hB
  · have e : ((ys.map lim).toArray.toList.take 0 ++ (xs.map lim ++ (ys.map lim).toArray.toList.drop (0 + (xs.map lim).length))).toArray = ((xs ++ ys.drop n).map lim).toArray := by
      simp [hx]
    have hk : Blk (w.setRow g ((xs ++ ys.drop n).map lim).toArray) g (xs ++ ys.drop n) := ⟨setRow_heap w g _ _ 56 (0, 0) hB.1, Num.small_append hS.2.2.2.1 (Num.small_drop hB.2 n)⟩
    have hgr : w.grownBy (w.setRow g ((xs ++ ys.drop n).map lim).toArray) (some g) := ⟨rfl, rfl, rfl, by simp [World.setRow], fun k hk hne => setRow_other w g k _ (fun e => hne (by rw [e]))⟩
    have hfin := h _ hk hgr
    have hmin : (xs.map lim).length = Nat.min n dLen := by rw [List.length_map, hx]; exact (Nat.min_eq_left hn).symm
    refine wpList_copy_own hgd d s dT sT ho 56 hu hsz g 0 dLen dCap ⟨g', o', none⟩ n cb hd hs _ 56 hB.1 (xs.map lim) hmin ?_ ?_ (one_lims xs) ?_
    · intro j v hv
      obtain ⟨hj, rfl⟩ := lims_at hv
      rw [Addr.add_lit]; exact hc j hj
    · simp; omega
    · rw [e, List.length_map, hx]; exact hfin

set_option maxHeartbeats 4000000 in
set_option maxRecDepth 20000 in
theorem sumI (v1 v2 : Value) (n1 n2 : Bool) (x y : Nat) (w : World) (h1 : Raw w v1 n1 (Num.limbs x)) (h2 : Raw w v2 n2 (Num.limbs y)) (l1 : (Num.limbs x).length ≤ 1048576) (l2 : (Num.limbs y).length ≤ 1048576) :
    Calls Try.prog 36 #[v1, v2] w fun e w' => ∃ v, e = .returned v ∧ New w' w.heap.size v (mk n1 x + mk n2 y) ∧ Below w.heap.size w w' := by
  obtain ⟨i0, hi, hz0, hz1, hz2⟩ := info_parts Try.info56
  obtain ⟨a, ca, rfl, ha⟩ := h1
  obtain ⟨b, cb, rfl, hb⟩ := h2
  have HA := hide ha
  have HBB := hide hb
  clear ha hb
  have HZ := hide (bl_alloc (bl_alloc (bl_alloc (bl_refl w) (Obj.cells #[Value.bool n1, Value.slice a (Num.limbs x).length ca] 26)) (Obj.cells #[Value.bool n2, Value.slice b (Num.limbs y).length cb] 26)) (Obj.cells #[Value.bool false, Value.slice none 0 0] 26))
  have kP0 : (((w.alloc (Obj.cells #[Value.bool n1, Value.slice a (Num.limbs x).length ca] 26)).alloc (Obj.cells #[Value.bool n2, Value.slice b (Num.limbs y).length cb] 26)).alloc (Obj.cells #[Value.bool false, Value.slice none 0 0] 26)).cell? ⟨w.heap.size, 0, none⟩ = some (Value.bool n1) := by go_simp
  have fP0 : (((w.alloc (Obj.cells #[Value.bool n1, Value.slice a (Num.limbs x).length ca] 26)).alloc (Obj.cells #[Value.bool n2, Value.slice b (Num.limbs y).length cb] 26)).alloc (Obj.cells #[Value.bool false, Value.slice none 0 0] 26)).frozen? ⟨w.heap.size, 0, none⟩ = false := by go_simp
  have kP1 : (((w.alloc (Obj.cells #[Value.bool n1, Value.slice a (Num.limbs x).length ca] 26)).alloc (Obj.cells #[Value.bool n2, Value.slice b (Num.limbs y).length cb] 26)).alloc (Obj.cells #[Value.bool false, Value.slice none 0 0] 26)).cell? ⟨w.heap.size, 1, none⟩ = some (Value.slice a (Num.limbs x).length ca) := by go_simp
  have fP1 : (((w.alloc (Obj.cells #[Value.bool n1, Value.slice a (Num.limbs x).length ca] 26)).alloc (Obj.cells #[Value.bool n2, Value.slice b (Num.limbs y).length cb] 26)).alloc (Obj.cells #[Value.bool false, Value.slice none 0 0] 26)).frozen? ⟨w.heap.size, 1, none⟩ = false := by go_simp
  have kQ0 : (((w.alloc (Obj.cells #[Value.bool n1, Value.slice a (Num.limbs x).length ca] 26)).alloc (Obj.cells #[Value.bool n2, Value.slice b (Num.limbs y).length cb] 26)).alloc (Obj.cells #[Value.bool false, Value.slice none 0 0] 26)).cell? ⟨w.heap.size + 1, 0, none⟩ = some (Value.bool n2) := by go_simp
  have fQ0 : (((w.alloc (Obj.cells #[Value.bool n1, Value.slice a (Num.limbs x).length ca] 26)).alloc (Obj.cells #[Value.bool n2, Value.slice b (Num.limbs y).length cb] 26)).alloc (Obj.cells #[Value.bool false, Value.slice none 0 0] 26)).frozen? ⟨w.heap.size + 1, 0, none⟩ = false := by go_simp
  have kQ1 : (((w.alloc (Obj.cells #[Value.bool n1, Value.slice a (Num.limbs x).length ca] 26)).alloc (Obj.cells #[Value.bool n2, Value.slice b (Num.limbs y).length cb] 26)).alloc (Obj.cells #[Value.bool false, Value.slice none 0 0] 26)).cell? ⟨w.heap.size + 1, 1, none⟩ = some (Value.slice b (Num.limbs y).length cb) := by go_simp
  have fQ1 : (((w.alloc (Obj.cells #[Value.bool n1, Value.slice a (Num.limbs x).length ca] 26)).alloc (Obj.cells #[Value.bool n2, Value.slice b (Num.limbs y).length cb] 26)).alloc (Obj.cells #[Value.bool false, Value.slice none 0 0] 26)).frozen? ⟨w.heap.size + 1, 1, none⟩ = false := by go_simp
  have kR0 : (((w.alloc (Obj.cells #[Value.bool n1, Value.slice a (Num.limbs x).length ca] 26)).alloc (Obj.cells #[Value.bool n2, Value.slice b (Num.limbs y).length cb] 26)).alloc (Obj.cells #[Value.bool false, Value.slice none 0 0] 26)).cell? ⟨w.heap.size + 1 + 1, 0, none⟩ = some (Value.bool false) := by go_simp
  have fR0 : (((w.alloc (Obj.cells #[Value.bool n1, Value.slice a (Num.limbs x).length ca] 26)).alloc (Obj.cells #[Value.bool n2, Value.slice b (Num.limbs y).length cb] 26)).alloc (Obj.cells #[Value.bool false, Value.slice none 0 0] 26)).frozen? ⟨w.heap.size + 1 + 1, 0, none⟩ = false := by go_simp
  have kR1 : (((w.alloc (Obj.cells #[Value.bool n1, Value.slice a (Num.limbs x).length ca] 26)).alloc (Obj.cells #[Value.bool n2, Value.slice b (Num.limbs y).length cb] 26)).alloc (Obj.cells #[Value.bool false, Value.slice none 0 0] 26)).cell? ⟨w.heap.size + 1 + 1, 1, none⟩ = some (Value.slice none 0 0) := by go_simp
  have fR1 : (((w.alloc (Obj.cells #[Value.bool n1, Value.slice a (Num.limbs x).length ca] 26)).alloc (Obj.cells #[Value.bool n2, Value.slice b (Num.limbs y).length cb] 26)).alloc (Obj.cells #[Value.bool false, Value.slice none 0 0] 26)).frozen? ⟨w.heap.size + 1 + 1, 1, none⟩ = false := by go_simp
  have q1 : w.heap.size + 3 ≤ (((w.alloc (Obj.cells #[Value.bool n1, Value.slice a (Num.limbs x).length ca] 26)).alloc (Obj.cells #[Value.bool n2, Value.slice b (Num.limbs y).length cb] 26)).alloc (Obj.cells #[Value.bool false, Value.slice none 0 0] 26)).heap.size := by simp only [World.size_alloc]; omega
  go_enter Try.func36, Try.ntmps36
  go_wp2_with fail
  generalize (((w.alloc (Obj.cells #[Value.bool n1, Value.slice a (Num.limbs x).length ca] 26)).alloc (Obj.cells #[Value.bool n2, Value.slice b (Num.limbs y).length cb] 26)).alloc (Obj.cells #[Value.bool false, Value.slice none 0 0] 26)) = w1 at *
  refine (leastI x y a b _ _ ca cb _ (HA.out.below HZ.out) (HBB.out.below HZ.out)).mono ?_
  rintro e w2 ⟨rfl, d, hw2⟩
  replace kP0 : w2.cell? ⟨w.heap.size, 0, none⟩ = some (Value.bool n1) := by rw [hw2]; exact kP0
  replace fP0 : w2.frozen? ⟨w.heap.size, 0, none⟩ = false := by rw [hw2]; exact fP0
  replace kP1 : w2.cell? ⟨w.heap.size, 1, none⟩ = some (Value.slice a (Num.limbs x).length ca) := by rw [hw2]; exact kP1
  replace fP1 : w2.frozen? ⟨w.heap.size, 1, none⟩ = false := by rw [hw2]; exact fP1
  replace kQ0 : w2.cell? ⟨w.heap.size + 1, 0, none⟩ = some (Value.bool n2) := by rw [hw2]; exact kQ0
  replace fQ0 : w2.frozen? ⟨w.heap.size + 1, 0, none⟩ = false := by rw [hw2]; exact fQ0
  replace kQ1 : w2.cell? ⟨w.heap.size + 1, 1, none⟩ = some (Value.slice b (Num.limbs y).length cb) := by rw [hw2]; exact kQ1
  replace fQ1 : w2.frozen? ⟨w.heap.size + 1, 1, none⟩ = false := by rw [hw2]; exact fQ1
  replace kR0 : w2.cell? ⟨w.heap.size + 1 + 1, 0, none⟩ = some (Value.bool false) := by rw [hw2]; exact kR0
  replace fR0 : w2.frozen? ⟨w.heap.size + 1 + 1, 0, none⟩ = false := by rw [hw2]; exact fR0
  replace kR1 : w2.cell? ⟨w.heap.size + 1 + 1, 1, none⟩ = some (Value.slice none 0 0) := by rw [hw2]; exact kR1
  replace fR1 : w2.frozen? ⟨w.heap.size + 1 + 1, 1, none⟩ = false := by rw [hw2]; exact fR1
  replace HZ : Hid (Below w.heap.size w w2) := hide (by rw [hw2]; exact below_drewN HZ.out d)
  replace q1 : w.heap.size + 3 ≤ w2.heap.size := by rw [hw2]; exact q1
  clear hw2
  by_cases hxy : x < y
  · rw [cmp_lt (by omega)]
    have hXY : x ≤ y := by omega
    have hlen : (Num.limbs x).length ≤ (Num.limbs y).length := Num.limbs_len.2 (Nat.lt_of_le_of_lt hXY (Num.limbs_len.1 (Nat.le_refl _)))
    go_wp2_with (first
      | (at_make; refine wpList_make_full _ rfl _ _ 24 rfl w2.heap.size 56 i0 (.int .u32 0) 1 Try.underlying24 hi hz0 hz1 _ _ _ _ ((Num.limbs y).length + 1) rfl rfl (by push_cast; rfl) (by push_cast; rfl) (by rw [hz2]; omega) (by unfold maxLen; omega) (by simp) ?_; intro w3 hown hgrow; simp only [World.size_setCell] at hown; replace kP0 : w3.cell? ⟨w.heap.size, 0, none⟩ = some (Value.bool n2) := hgrow.cell (by go_simp) (by simp); replace fP0 : w3.frozen? ⟨w.heap.size, 0, none⟩ = false := (grown_frozen hgrow (by simp only [World.size_setCell]; omega) (by simp)).trans (by go_simp); replace kP1 : w3.cell? ⟨w.heap.size, 1, none⟩ = some (Value.slice b (Num.limbs y).length cb) := hgrow.cell (by go_simp) (by simp); replace fP1 : w3.frozen? ⟨w.heap.size, 1, none⟩ = false := (grown_frozen hgrow (by simp only [World.size_setCell]; omega) (by simp)).trans (by go_simp); replace kQ0 : w3.cell? ⟨w.heap.size + 1, 0, none⟩ = some (Value.bool n1) := hgrow.cell (by go_simp) (by simp); replace fQ0 : w3.frozen? ⟨w.heap.size + 1, 0, none⟩ = false := (grown_frozen hgrow (by simp only [World.size_setCell]; omega) (by simp)).trans (by go_simp); replace kQ1 : w3.cell? ⟨w.heap.size + 1, 1, none⟩ = some (Value.slice a (Num.limbs x).length ca) := hgrow.cell (by go_simp) (by simp); replace fQ1 : w3.frozen? ⟨w.heap.size + 1, 1, none⟩ = false := (grown_frozen hgrow (by simp only [World.size_setCell]; omega) (by simp)).trans (by go_simp); replace kR0 : w3.cell? ⟨w.heap.size + 1 + 1, 0, none⟩ = some (Value.bool false) := hgrow.cell (by go_simp) (by simp); replace fR0 : w3.frozen? ⟨w.heap.size + 1 + 1, 0, none⟩ = false := (grown_frozen hgrow (by simp only [World.size_setCell]; omega) (by simp)).trans (by go_simp); replace kR1 : w3.cell? ⟨w.heap.size + 1 + 1, 1, none⟩ = some (Value.slice none 0 0) := hgrow.cell (by go_simp) (by simp); replace fR1 : w3.frozen? ⟨w.heap.size + 1 + 1, 1, none⟩ = false := (grown_frozen hgrow (by simp only [World.size_setCell]; omega) (by simp)).trans (by go_simp); have HZ3 := hide ((((((HZ.out.setCell (p := ⟨w.heap.size, 0, none⟩) (Nat.le_refl _) _).setCell (p := ⟨w.heap.size, 1, none⟩) (Nat.le_refl _) _).setCell (p := ⟨w.heap.size + 1, 0, none⟩) (by dsimp only; omega) _).setCell (p := ⟨w.heap.size + 1, 1, none⟩) (by dsimp only; omega) _)).grown hgrow (by simp only [World.size_setCell]; omega) (by simp)); have B3 := hide (own_made2 hown).blk; have q3 := B3.out.lt; clear hown hgrow)
      | (refine wpList_copy_lim rfl _ _ 24 24 rfl Try.underlying24 Try.size56 w2.heap.size ((Num.limbs y).length + 1) ((Num.limbs y).length + 1) b (Num.limbs y).length cb rfl rfl _ _ B3.out (by simp) (HBB.out.below HZ3.out) (by omega) ?_; intro w4 hB4 hg4; replace kP0 : w4.cell? ⟨w.heap.size, 0, none⟩ = some (Value.bool n2) := hg4.cell kP0 (by simp; omega); replace fP0 : w4.frozen? ⟨w.heap.size, 0, none⟩ = false := (grown_frozen hg4 (by dsimp only; omega) (by simp; omega)).trans fP0; replace kP1 : w4.cell? ⟨w.heap.size, 1, none⟩ = some (Value.slice b (Num.limbs y).length cb) := hg4.cell kP1 (by simp; omega); replace fP1 : w4.frozen? ⟨w.heap.size, 1, none⟩ = false := (grown_frozen hg4 (by dsimp only; omega) (by simp; omega)).trans fP1; replace kQ0 : w4.cell? ⟨w.heap.size + 1, 0, none⟩ = some (Value.bool n1) := hg4.cell kQ0 (by simp; omega); replace fQ0 : w4.frozen? ⟨w.heap.size + 1, 0, none⟩ = false := (grown_frozen hg4 (by dsimp only; omega) (by simp; omega)).trans fQ0; replace kQ1 : w4.cell? ⟨w.heap.size + 1, 1, none⟩ = some (Value.slice a (Num.limbs x).length ca) := hg4.cell kQ1 (by simp; omega); replace fQ1 : w4.frozen? ⟨w.heap.size + 1, 1, none⟩ = false := (grown_frozen hg4 (by dsimp only; omega) (by simp; omega)).trans fQ1; replace kR0 : w4.cell? ⟨w.heap.size + 1 + 1, 0, none⟩ = some (Value.bool false) := hg4.cell kR0 (by simp; omega); replace fR0 : w4.frozen? ⟨w.heap.size + 1 + 1, 0, none⟩ = false := (grown_frozen hg4 (by dsimp only; omega) (by simp; omega)).trans fR0; replace kR1 : w4.cell? ⟨w.heap.size + 1 + 1, 1, none⟩ = some (Value.slice none 0 0) := hg4.cell kR1 (by simp; omega); replace fR1 : w4.frozen? ⟨w.heap.size + 1 + 1, 1, none⟩ = false := (grown_frozen hg4 (by dsimp only; omega) (by simp; omega)).trans fR1; have HZ4 := hide (HZ3.out.grown hg4 HZ3.out.size (fun k e => by cases e; omega)); have B4 := hide hB4; clear hB4 hg4))
    refine (addI (!n2 == n1) w2.heap.size 0 ((Num.limbs y).length + 1) ((Num.limbs y).length + 1) _ a (Num.limbs x).length ca (Num.limbs x) _ B4.out (by simp) (Nat.le_refl _) (by omega) (HA.out.below HZ4.out) (fun hp gb ob s e => by have := seg_low HA.out hp e; omega)).mono ?_
    rintro e w5 ⟨zs, c, hS, he, hB5, hg5⟩
    obtain ⟨r5, rfl⟩ : ∃ r : Int, e = .returned (.int .u32 r) := ⟨_, he⟩
    clear he
    have q4 := B4.out.lt
    replace kP0 : w5.cell? ⟨w.heap.size, 0, none⟩ = some (Value.bool n2) := hg5.cell kP0 (by simp; omega)
    replace fP0 : w5.frozen? ⟨w.heap.size, 0, none⟩ = false := (grown_frozen hg5 (by dsimp only; omega) (by simp; omega)).trans fP0
    replace kP1 : w5.cell? ⟨w.heap.size, 1, none⟩ = some (Value.slice b (Num.limbs y).length cb) := hg5.cell kP1 (by simp; omega)
    replace fP1 : w5.frozen? ⟨w.heap.size, 1, none⟩ = false := (grown_frozen hg5 (by dsimp only; omega) (by simp; omega)).trans fP1
    replace kQ0 : w5.cell? ⟨w.heap.size + 1, 0, none⟩ = some (Value.bool n1) := hg5.cell kQ0 (by simp; omega)
    replace fQ0 : w5.frozen? ⟨w.heap.size + 1, 0, none⟩ = false := (grown_frozen hg5 (by dsimp only; omega) (by simp; omega)).trans fQ0
    replace kQ1 : w5.cell? ⟨w.heap.size + 1, 1, none⟩ = some (Value.slice a (Num.limbs x).length ca) := hg5.cell kQ1 (by simp; omega)
    replace fQ1 : w5.frozen? ⟨w.heap.size + 1, 1, none⟩ = false := (grown_frozen hg5 (by dsimp only; omega) (by simp; omega)).trans fQ1
    replace kR0 : w5.cell? ⟨w.heap.size + 1 + 1, 0, none⟩ = some (Value.bool false) := hg5.cell kR0 (by simp; omega)
    replace fR0 : w5.frozen? ⟨w.heap.size + 1 + 1, 0, none⟩ = false := (grown_frozen hg5 (by dsimp only; omega) (by simp; omega)).trans fR0
    replace kR1 : w5.cell? ⟨w.heap.size + 1 + 1, 1, none⟩ = some (Value.slice none 0 0) := hg5.cell kR1 (by simp; omega)
    replace fR1 : w5.frozen? ⟨w.heap.size + 1 + 1, 1, none⟩ = false := (grown_frozen hg5 (by dsimp only; omega) (by simp; omega)).trans fR1
    have HZ5 := hide (HZ4.out.grown hg5 HZ4.out.size (fun k e => by cases e; omega))
    have hzl := hS.1
    have HV := hide (sum_val hS hXY)
    have HO5 := hide (sum_own (base := w2.heap.size) hB5 hzl rfl (Nat.le_refl _) (by omega))
    have q5 := hB5.lt
    clear hB5 hg5 hS B3 B4 HZ3 HZ4 q3 q4
    go_wp2_with fail
    refine (bigOfI n2 _ _ _ zs w2.heap.size _ HO5.out (by omega)).mono ?_
    rintro e w6 ⟨v6, rfl, hn6, hb6⟩
    replace kR0 := (hb6.cell (p := ⟨w.heap.size + 1 + 1, 0, none⟩) (by dsimp only; omega)).trans kR0
    replace fR0 := (hb6.frozen (p := ⟨w.heap.size + 1 + 1, 0, none⟩) (by dsimp only; omega)).trans fR0
    replace kR1 := (hb6.cell (p := ⟨w.heap.size + 1 + 1, 1, none⟩) (by dsimp only; omega)).trans kR1
    replace fR1 := (hb6.frozen (p := ⟨w.heap.size + 1 + 1, 1, none⟩) (by dsimp only; omega)).trans fR1
    rw [HV.out, sum_sign2 n1 n2 x y hXY] at hn6
    have HF := hide (fun x y => fin_box (N := w.heap.size + 1 + 1) (x := x) (y := y) hn6 (by omega) (by omega) (bl_trans HZ5.out hb6))
    obtain ⟨a6, c6, rfl, ho6⟩ := hn6
    clear hb6 ho6 HO5 kP0 kP1 kQ0 kQ1 fP0 fP1 fQ0 fQ1
    go_wp2
    refine bodyPost_ret (v := .agg #[.bool (sgn (mk n1 x + mk n2 y)), .slice a6 (lms (mk n1 x + mk n2 y)).length c6]) (by simp [results, Try.results36, go_sem, *]) rfl ?_
    exact ⟨_, rfl, HF.out _ _⟩
  · have hc : (cmpZ (x : Int) y < 0) = False := by
      refine eq_false ?_
      by_cases h : x = y
      · rw [cmp_eq (by omega)]; decide
      · rw [cmp_gt (by omega)]; decide
    have hc' : ¬ cmpZ (x : Int) y < 0 := by rw [hc]; exact id
    clear hc
    generalize cmpZ (x : Int) y = r at *
    have hXY : y ≤ x := by omega
    have hlen : (Num.limbs y).length ≤ (Num.limbs x).length := Num.limbs_len.2 (Nat.lt_of_le_of_lt hXY (Num.limbs_len.1 (Nat.le_refl _)))
    go_wp2_with (first
      | (at_make; refine wpList_make_full _ rfl _ _ 24 rfl w2.heap.size 56 i0 (.int .u32 0) 1 Try.underlying24 hi hz0 hz1 _ _ _ _ ((Num.limbs x).length + 1) rfl rfl (by push_cast; rfl) (by push_cast; rfl) (by rw [hz2]; omega) (by unfold maxLen; omega) (by simp) ?_; intro w3 hown hgrow; skip; replace kP0 : w3.cell? ⟨w.heap.size, 0, none⟩ = some (Value.bool n1) := hgrow.cell kP0 (by simp); replace fP0 : w3.frozen? ⟨w.heap.size, 0, none⟩ = false := (grown_frozen hgrow (by dsimp only; omega) (by simp)).trans fP0; replace kP1 : w3.cell? ⟨w.heap.size, 1, none⟩ = some (Value.slice a (Num.limbs x).length ca) := hgrow.cell kP1 (by simp); replace fP1 : w3.frozen? ⟨w.heap.size, 1, none⟩ = false := (grown_frozen hgrow (by dsimp only; omega) (by simp)).trans fP1; replace kQ0 : w3.cell? ⟨w.heap.size + 1, 0, none⟩ = some (Value.bool n2) := hgrow.cell kQ0 (by simp); replace fQ0 : w3.frozen? ⟨w.heap.size + 1, 0, none⟩ = false := (grown_frozen hgrow (by dsimp only; omega) (by simp)).trans fQ0; replace kQ1 : w3.cell? ⟨w.heap.size + 1, 1, none⟩ = some (Value.slice b (Num.limbs y).length cb) := hgrow.cell kQ1 (by simp); replace fQ1 : w3.frozen? ⟨w.heap.size + 1, 1, none⟩ = false := (grown_frozen hgrow (by dsimp only; omega) (by simp)).trans fQ1; replace kR0 : w3.cell? ⟨w.heap.size + 1 + 1, 0, none⟩ = some (Value.bool false) := hgrow.cell kR0 (by simp); replace fR0 : w3.frozen? ⟨w.heap.size + 1 + 1, 0, none⟩ = false := (grown_frozen hgrow (by dsimp only; omega) (by simp)).trans fR0; replace kR1 : w3.cell? ⟨w.heap.size + 1 + 1, 1, none⟩ = some (Value.slice none 0 0) := hgrow.cell kR1 (by simp); replace fR1 : w3.frozen? ⟨w.heap.size + 1 + 1, 1, none⟩ = false := (grown_frozen hgrow (by dsimp only; omega) (by simp)).trans fR1; have HZ3 := hide (HZ.out.grown hgrow (by omega) (by simp)); have B3 := hide (own_made2 hown).blk; have q3 := B3.out.lt; clear hown hgrow)
      | (refine wpList_copy_lim rfl _ _ 24 24 rfl Try.underlying24 Try.size56 w2.heap.size ((Num.limbs x).length + 1) ((Num.limbs x).length + 1) a (Num.limbs x).length ca rfl rfl _ _ B3.out (by simp) (HA.out.below HZ3.out) (by omega) ?_; intro w4 hB4 hg4; replace kP0 : w4.cell? ⟨w.heap.size, 0, none⟩ = some (Value.bool n1) := hg4.cell kP0 (by simp; omega); replace fP0 : w4.frozen? ⟨w.heap.size, 0, none⟩ = false := (grown_frozen hg4 (by dsimp only; omega) (by simp; omega)).trans fP0; replace kP1 : w4.cell? ⟨w.heap.size, 1, none⟩ = some (Value.slice a (Num.limbs x).length ca) := hg4.cell kP1 (by simp; omega); replace fP1 : w4.frozen? ⟨w.heap.size, 1, none⟩ = false := (grown_frozen hg4 (by dsimp only; omega) (by simp; omega)).trans fP1; replace kQ0 : w4.cell? ⟨w.heap.size + 1, 0, none⟩ = some (Value.bool n2) := hg4.cell kQ0 (by simp; omega); replace fQ0 : w4.frozen? ⟨w.heap.size + 1, 0, none⟩ = false := (grown_frozen hg4 (by dsimp only; omega) (by simp; omega)).trans fQ0; replace kQ1 : w4.cell? ⟨w.heap.size + 1, 1, none⟩ = some (Value.slice b (Num.limbs y).length cb) := hg4.cell kQ1 (by simp; omega); replace fQ1 : w4.frozen? ⟨w.heap.size + 1, 1, none⟩ = false := (grown_frozen hg4 (by dsimp only; omega) (by simp; omega)).trans fQ1; replace kR0 : w4.cell? ⟨w.heap.size + 1 + 1, 0, none⟩ = some (Value.bool false) := hg4.cell kR0 (by simp; omega); replace fR0 : w4.frozen? ⟨w.heap.size + 1 + 1, 0, none⟩ = false := (grown_frozen hg4 (by dsimp only; omega) (by simp; omega)).trans fR0; replace kR1 : w4.cell? ⟨w.heap.size + 1 + 1, 1, none⟩ = some (Value.slice none 0 0) := hg4.cell kR1 (by simp; omega); replace fR1 : w4.frozen? ⟨w.heap.size + 1 + 1, 1, none⟩ = false := (grown_frozen hg4 (by dsimp only; omega) (by simp; omega)).trans fR1; have HZ4 := hide (HZ3.out.grown hg4 HZ3.out.size (fun k e => by cases e; omega)); have B4 := hide hB4; clear hB4 hg4))
    refine (addI (!n1 == n2) w2.heap.size 0 ((Num.limbs x).length + 1) ((Num.limbs x).length + 1) _ b (Num.limbs y).length cb (Num.limbs y) _ B4.out (by simp) (Nat.le_refl _) (by omega) (HBB.out.below HZ4.out) (fun hp gb ob s e => by have := seg_low HBB.out hp e; omega)).mono ?_
    rintro e w5 ⟨zs, c, hS, he, hB5, hg5⟩
    obtain ⟨r5, rfl⟩ : ∃ r : Int, e = .returned (.int .u32 r) := ⟨_, he⟩
    clear he
    have q4 := B4.out.lt
    replace kP0 : w5.cell? ⟨w.heap.size, 0, none⟩ = some (Value.bool n1) := hg5.cell kP0 (by simp; omega)
    replace fP0 : w5.frozen? ⟨w.heap.size, 0, none⟩ = false := (grown_frozen hg5 (by dsimp only; omega) (by simp; omega)).trans fP0
    replace kP1 : w5.cell? ⟨w.heap.size, 1, none⟩ = some (Value.slice a (Num.limbs x).length ca) := hg5.cell kP1 (by simp; omega)
    replace fP1 : w5.frozen? ⟨w.heap.size, 1, none⟩ = false := (grown_frozen hg5 (by dsimp only; omega) (by simp; omega)).trans fP1
    replace kQ0 : w5.cell? ⟨w.heap.size + 1, 0, none⟩ = some (Value.bool n2) := hg5.cell kQ0 (by simp; omega)
    replace fQ0 : w5.frozen? ⟨w.heap.size + 1, 0, none⟩ = false := (grown_frozen hg5 (by dsimp only; omega) (by simp; omega)).trans fQ0
    replace kQ1 : w5.cell? ⟨w.heap.size + 1, 1, none⟩ = some (Value.slice b (Num.limbs y).length cb) := hg5.cell kQ1 (by simp; omega)
    replace fQ1 : w5.frozen? ⟨w.heap.size + 1, 1, none⟩ = false := (grown_frozen hg5 (by dsimp only; omega) (by simp; omega)).trans fQ1
    replace kR0 : w5.cell? ⟨w.heap.size + 1 + 1, 0, none⟩ = some (Value.bool false) := hg5.cell kR0 (by simp; omega)
    replace fR0 : w5.frozen? ⟨w.heap.size + 1 + 1, 0, none⟩ = false := (grown_frozen hg5 (by dsimp only; omega) (by simp; omega)).trans fR0
    replace kR1 : w5.cell? ⟨w.heap.size + 1 + 1, 1, none⟩ = some (Value.slice none 0 0) := hg5.cell kR1 (by simp; omega)
    replace fR1 : w5.frozen? ⟨w.heap.size + 1 + 1, 1, none⟩ = false := (grown_frozen hg5 (by dsimp only; omega) (by simp; omega)).trans fR1
    have HZ5 := hide (HZ4.out.grown hg5 HZ4.out.size (fun k e => by cases e; omega))
    have hzl := hS.1
    have HV := hide (sum_val hS hXY)
    have HO5 := hide (sum_own (base := w2.heap.size) hB5 hzl rfl (Nat.le_refl _) (by omega))
    have q5 := hB5.lt
    clear hB5 hg5 hS B3 B4 HZ3 HZ4 q3 q4
    go_wp2_with fail
    refine (bigOfI n1 _ _ _ zs w2.heap.size _ HO5.out (by omega)).mono ?_
    rintro e w6 ⟨v6, rfl, hn6, hb6⟩
    replace kR0 := (hb6.cell (p := ⟨w.heap.size + 1 + 1, 0, none⟩) (by dsimp only; omega)).trans kR0
    replace fR0 := (hb6.frozen (p := ⟨w.heap.size + 1 + 1, 0, none⟩) (by dsimp only; omega)).trans fR0
    replace kR1 := (hb6.cell (p := ⟨w.heap.size + 1 + 1, 1, none⟩) (by dsimp only; omega)).trans kR1
    replace fR1 := (hb6.frozen (p := ⟨w.heap.size + 1 + 1, 1, none⟩) (by dsimp only; omega)).trans fR1
    rw [HV.out, sum_sign n1 n2 x y hXY] at hn6
    have HF := hide (fun x y => fin_box (N := w.heap.size + 1 + 1) (x := x) (y := y) hn6 (by omega) (by omega) (bl_trans HZ5.out hb6))
    obtain ⟨a6, c6, rfl, ho6⟩ := hn6
    clear hb6 ho6 HO5 kP0 kP1 kQ0 kQ1 fP0 fP1 fQ0 fQ1
    go_wp2
    refine bodyPost_ret (v := .agg #[.bool (sgn (mk n1 x + mk n2 y)), .slice a6 (lms (mk n1 x + mk n2 y)).length c6]) (by simp [results, Try.results36, go_sem, *]) rfl ?_
    exact ⟨_, rfl, HF.out _ _⟩
end Go.Proofs.Ythjapjbiclkhcaa
