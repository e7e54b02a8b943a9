/- My texts Sum, Fit, TimesS, Short, ShortI, in this order. -/
import Derived.Test.YthjapjbiclkhcaaPk02
import Derived.Laws.CopyOwn
import Derived.Test.YthjapjbiclkhcaaPk01
/- The walks of bigSum and bigDifference: the sum of two numbers of any size, in new memory. -/
namespace Go.Proofs.Ythjapjbiclkhcaa
open Go.RowKit
set_option linter.unusedVariables false

theorem lims_at {xs : List Nat} {j : Nat} {u : Value} (h : (xs.map lim)[j]? = some u) : ∃ hj : j < xs.length, u = .int .u32 xs[j] := by
  have hj : j < xs.length := by have := (List.getElem?_eq_some_iff.1 h).1; simpa using this
  exact ⟨hj, by have := (List.getElem?_eq_some_iff.1 h).2; simp [lim] at this; exact this.symm⟩
theorem seg_low {W : World} {b : Option Addr} {m cb : Nat} {ps : List Nat} (h : Seg W b m cb ps) (hm : 0 < m) {gb ob : Nat} {s : Option Nat} (e : b = some ⟨gb, ob, s⟩) : gb < W.heap.size := by
  rcases h.2.2.2.2 with h0 | ⟨g, o, ha, hg, _⟩
  · omega
  · rw [ha] at e; cases e; exact hg
theorem sum_val0 {t : Bool} {X Y nz c B D : Nat} (hX : X < B) (hBD : 2 * B ≤ D) (hXY : Y ≤ X) (hz : nz < D) (h3 : c = 0 ∨ c = 1) (h4 : if t = true then nz + Y + D * c = X + D else nz + D * c = X + Y) : nz = if t = true then X - Y else X + Y := by
  cases t with
  | false =>
    rw [if_neg (by simp)] at h4 ⊢
    rcases h3 with rfl | rfl
    · rw [Nat.mul_zero] at h4; omega
    · rw [Nat.mul_one] at h4; omega
  | true =>
    rw [if_pos rfl] at h4 ⊢
    rcases h3 with rfl | rfl
    · rw [Nat.mul_zero] at h4; omega
    · rw [Nat.mul_one] at h4; omega
theorem pw_two (n : Nat) : 2 * 4294967296 ^ n ≤ 4294967296 ^ (n + 1) := by
  rw [Nat.pow_succ, Nat.mul_comm]; exact Nat.mul_le_mul_left _ (by decide)
theorem zero_or_one {c : Nat} (h : c ≤ 1) : c = 0 ∨ c = 1 := by omega
theorem nat_snoc0 (xs : List Nat) : Num.nat (xs ++ [0]) = Num.nat xs := by
  rw [Num.nat_append, show Num.nat [0] = 0 from rfl, Nat.mul_zero, Nat.add_zero]
theorem rep_drop (n : Nat) : (List.replicate (n + 1) 0).drop n = [0] := by
  rw [List.drop_replicate, Nat.add_sub_cancel_left]; rfl
theorem sum_val {t : Bool} {X Y : Nat} {zs : List Nat} {c : Nat} (h : Sofar t (((Num.limbs X ++ (List.replicate ((Num.limbs X).length + 1) 0).drop (Num.limbs X).length).drop 0).take ((Num.limbs X).length + 1)) (Num.limbs Y) zs ((Num.limbs X).length + 1) c) (hXY : Y ≤ X) :
    Num.nat zs = if t = true then X - Y else X + Y := by
  obtain ⟨h1, h2, h3, h4⟩ := h
  have hX : X < 4294967296 ^ (Num.limbs X).length := Num.limbs_len.1 (Nat.le_refl _)
  have hYl : (Num.limbs Y).length ≤ (Num.limbs X).length := Num.limbs_len.2 (Nat.lt_of_le_of_lt hXY hX)
  have hz := Num.nat_lt h2
  rw [h1] at hz
  have e1 : (Num.limbs X ++ [0]).take ((Num.limbs X).length + 1) = Num.limbs X ++ [0] := List.take_of_length_le (by rw [List.length_append]; exact Nat.le_refl _)
  rw [rep_drop, List.drop_zero, e1, e1, List.take_of_length_le (Nat.le_succ_of_le hYl), nat_snoc0, Num.nat_limbs, Num.nat_limbs] at h4
  exact sum_val0 hX (pw_two _) hXY hz (zero_or_one h3) h4
theorem sum_own {W : World} {g n base : Nat} {X zs : List Nat} (hB : Blk W g ((X ++ (List.replicate (X.length + 1) 0).drop X.length).take 0 ++ zs ++ (X ++ (List.replicate (X.length + 1) 0).drop X.length).drop (0 + n))) (hz : zs.length = n) (hn : n = X.length + 1) (hb : base ≤ g) (hm : n ≤ 9223372036854775807) : Own W base (some ⟨g, 0, none⟩) n n zs := by
  have e : (X ++ (List.replicate (X.length + 1) 0).drop X.length).take 0 ++ zs ++ (X ++ (List.replicate (X.length + 1) 0).drop X.length).drop (0 + n) = zs := by
    rw [rep_drop, List.drop_eq_nil_of_le (by simp; omega)]; simp
  rw [e] at hB
  subst hz
  exact hB.own hb hm
theorem sum_sign (n1 n2 : Bool) (x y : Nat) (h : y ≤ x) : mk n1 (if (!n1 == n2) = true then x - y else x + y) = mk n1 x + mk n2 y := by
  cases n1 <;> cases n2 <;> simp [mk] <;> omega
theorem sum_sign2 (n1 n2 : Bool) (x y : Nat) (h : x ≤ y) : mk n2 (if (!n2 == n1) = true then y - x else y + x) = mk n1 x + mk n2 y := by
  cases n1 <;> cases n2 <;> simp [mk] <;> omega
theorem own_made2 {W : World} {base : Nat} {a : Option Addr} {n : Nat} (h : W.ownsRow base 56 1 (.slice a n n) n (madeCells (Value.int IntKind.u32 0).cells (n * 1)).toList) : Own W base a n n (List.replicate n 0) := by
  rw [Nat.mul_one] at h; exact own_made h
theorem Try.size56 : (Try.prog.info? 56).map (·.size) = some 1 := by kernel_rfl
/-- a copy of limbs into the head of a block -/
theorem wpList_copy_lim {P : Program} {w : World} {ops : Array Oper} {rest : List Oper} {o : Oper} {a : Act} {Q : Exit → Act → World → Prop} (hgd : o.guard = none) (d s : Operand) (dT sT : TypeId)
    (ho : o.op = .call { callee := .builtin .copy, args := #[d, s], argTypes := #[dT, sT] }) (hu : P.underlying dT = some (.slice 56)) (hsz : (P.info? 56).map (·.size) = some 1)
    (g dLen dCap : Nat) (b : Option Addr) (n cb : Nat) (hd : a.eval d = .slice (some ⟨g, 0, none⟩) dLen dCap) (hs : a.eval s = .slice b n cb)
    (ys xs : List Nat) (hB : Blk w g ys) (hl : ys.length = dLen) (hS : Seg w b n cb xs) (hn : n ≤ dLen)
    (h : ∀ w', Blk w' g (xs ++ ys.drop n) → w.grownBy w' (some g) → wpList P ops Q rest (a.put o.dst (goInt n)) w') : wpList P ops Q (o :: rest) a w := by
  have hx := hS.1
  rcases hS.2.2.2.2 with h0 | ⟨g', o', rfl, hg', hc⟩
  · subst h0
    refine wpList_copy_nothing hgd d s dT sT ho 56 hu hsz _ _ _ _ _ _ hd hs (by simp) (h w ?_ ⟨rfl, rfl, rfl, Nat.le_refl _, fun _ _ _ => rfl⟩)
    have : xs = [] := List.eq_nil_of_length_eq_zero hx
    subst this
    simpa using hB
  · have e : ((ys.map lim).toArray.toList.take 0 ++ (xs.map lim ++ (ys.map lim).toArray.toList.drop (0 + (xs.map lim).length))).toArray = ((xs ++ ys.drop n).map lim).toArray := by
      simp [hx]
    have hk : Blk (w.setRow g ((xs ++ ys.drop n).map lim).toArray) g (xs ++ ys.drop n) := ⟨setRow_heap w g _ _ 56 (0, 0) hB.1, Num.small_append hS.2.2.2.1 (Num.small_drop hB.2 n)⟩
    have hgr : w.grownBy (w.setRow g ((xs ++ ys.drop n).map lim).toArray) (some g) := ⟨rfl, rfl, rfl, by simp [World.setRow], fun k hk hne => setRow_other w g k _ (fun e => hne (by rw [e]))⟩
    have hfin := h _ hk hgr
    have hmin : (xs.map lim).length = Nat.min n dLen := by rw [List.length_map, hx]; exact (Nat.min_eq_left hn).symm
    refine wpList_copy_own hgd d s dT sT ho 56 hu hsz g 0 dLen dCap ⟨g', o', none⟩ n cb hd hs _ 56 hB.1 (xs.map lim) hmin ?_ ?_ (one_lims xs) ?_
    · intro j v hv
      obtain ⟨hj, rfl⟩ := lims_at hv
      rw [Addr.add_lit]; exact hc j hj
    · simp; omega
    · rw [e, List.length_map, hx]; exact hfin

set_option maxHeartbeats 4000000 in
set_option maxRecDepth 20000 in
theorem sumI (v1 v2 : Value) (n1 n2 : Bool) (x y : Nat) (w : World) (h1 : Raw w v1 n1 (Num.limbs x)) (h2 : Raw w v2 n2 (Num.limbs y)) (l1 : (Num.limbs x).length ≤ 1048576) (l2 : (Num.limbs y).length ≤ 1048576) :
    Calls Try.prog 36 #[v1, v2] w fun e w' => ∃ v, e = .returned v ∧ New w' w.heap.size v (mk n1 x + mk n2 y) ∧ Below w.heap.size w w' := by
  obtain ⟨i0, hi, hz0, hz1, hz2⟩ := info_parts Try.info56
  obtain ⟨a, ca, rfl, ha⟩ := h1
  obtain ⟨b, cb, rfl, hb⟩ := h2
  have HA := hide ha
  have HBB := hide hb
  clear ha hb
  have HZ := hide (bl_alloc (bl_alloc (bl_alloc (bl_refl w) (Obj.cells #[Value.bool n1, Value.slice a (Num.limbs x).length ca] 26)) (Obj.cells #[Value.bool n2, Value.slice b (Num.limbs y).length cb] 26)) (Obj.cells #[Value.bool false, Value.slice none 0 0] 26))
  have kP0 : (((w.alloc (Obj.cells #[Value.bool n1, Value.slice a (Num.limbs x).length ca] 26)).alloc (Obj.cells #[Value.bool n2, Value.slice b (Num.limbs y).length cb] 26)).alloc (Obj.cells #[Value.bool false, Value.slice none 0 0] 26)).cell? ⟨w.heap.size, 0, none⟩ = some (Value.bool n1) := by go_simp
  have fP0 : (((w.alloc (Obj.cells #[Value.bool n1, Value.slice a (Num.limbs x).length ca] 26)).alloc (Obj.cells #[Value.bool n2, Value.slice b (Num.limbs y).length cb] 26)).alloc (Obj.cells #[Value.bool false, Value.slice none 0 0] 26)).frozen? ⟨w.heap.size, 0, none⟩ = false := by go_simp
  have kP1 : (((w.alloc (Obj.cells #[Value.bool n1, Value.slice a (Num.limbs x).length ca] 26)).alloc (Obj.cells #[Value.bool n2, Value.slice b (Num.limbs y).length cb] 26)).alloc (Obj.cells #[Value.bool false, Value.slice none 0 0] 26)).cell? ⟨w.heap.size, 1, none⟩ = some (Value.slice a (Num.limbs x).length ca) := by go_simp
  have fP1 : (((w.alloc (Obj.cells #[Value.bool n1, Value.slice a (Num.limbs x).length ca] 26)).alloc (Obj.cells #[Value.bool n2, Value.slice b (Num.limbs y).length cb] 26)).alloc (Obj.cells #[Value.bool false, Value.slice none 0 0] 26)).frozen? ⟨w.heap.size, 1, none⟩ = false := by go_simp
  have kQ0 : (((w.alloc (Obj.cells #[Value.bool n1, Value.slice a (Num.limbs x).length ca] 26)).alloc (Obj.cells #[Value.bool n2, Value.slice b (Num.limbs y).length cb] 26)).alloc (Obj.cells #[Value.bool false, Value.slice none 0 0] 26)).cell? ⟨w.heap.size + 1, 0, none⟩ = some (Value.bool n2) := by go_simp
  have fQ0 : (((w.alloc (Obj.cells #[Value.bool n1, Value.slice a (Num.limbs x).length ca] 26)).alloc (Obj.cells #[Value.bool n2, Value.slice b (Num.limbs y).length cb] 26)).alloc (Obj.cells #[Value.bool false, Value.slice none 0 0] 26)).frozen? ⟨w.heap.size + 1, 0, none⟩ = false := by go_simp
  have kQ1 : (((w.alloc (Obj.cells #[Value.bool n1, Value.slice a (Num.limbs x).length ca] 26)).alloc (Obj.cells #[Value.bool n2, Value.slice b (Num.limbs y).length cb] 26)).alloc (Obj.cells #[Value.bool false, Value.slice none 0 0] 26)).cell? ⟨w.heap.size + 1, 1, none⟩ = some (Value.slice b (Num.limbs y).length cb) := by go_simp
  have fQ1 : (((w.alloc (Obj.cells #[Value.bool n1, Value.slice a (Num.limbs x).length ca] 26)).alloc (Obj.cells #[Value.bool n2, Value.slice b (Num.limbs y).length cb] 26)).alloc (Obj.cells #[Value.bool false, Value.slice none 0 0] 26)).frozen? ⟨w.heap.size + 1, 1, none⟩ = false := by go_simp
  have kR0 : (((w.alloc (Obj.cells #[Value.bool n1, Value.slice a (Num.limbs x).length ca] 26)).alloc (Obj.cells #[Value.bool n2, Value.slice b (Num.limbs y).length cb] 26)).alloc (Obj.cells #[Value.bool false, Value.slice none 0 0] 26)).cell? ⟨w.heap.size + 1 + 1, 0, none⟩ = some (Value.bool false) := by go_simp
  have fR0 : (((w.alloc (Obj.cells #[Value.bool n1, Value.slice a (Num.limbs x).length ca] 26)).alloc (Obj.cells #[Value.bool n2, Value.slice b (Num.limbs y).length cb] 26)).alloc (Obj.cells #[Value.bool false, Value.slice none 0 0] 26)).frozen? ⟨w.heap.size + 1 + 1, 0, none⟩ = false := by go_simp
  have kR1 : (((w.alloc (Obj.cells #[Value.bool n1, Value.slice a (Num.limbs x).length ca] 26)).alloc (Obj.cells #[Value.bool n2, Value.slice b (Num.limbs y).length cb] 26)).alloc (Obj.cells #[Value.bool false, Value.slice none 0 0] 26)).cell? ⟨w.heap.size + 1 + 1, 1, none⟩ = some (Value.slice none 0 0) := by go_simp
  have fR1 : (((w.alloc (Obj.cells #[Value.bool n1, Value.slice a (Num.limbs x).length ca] 26)).alloc (Obj.cells #[Value.bool n2, Value.slice b (Num.limbs y).length cb] 26)).alloc (Obj.cells #[Value.bool false, Value.slice none 0 0] 26)).frozen? ⟨w.heap.size + 1 + 1, 1, none⟩ = false := by go_simp
  have q1 : w.heap.size + 3 ≤ (((w.alloc (Obj.cells #[Value.bool n1, Value.slice a (Num.limbs x).length ca] 26)).alloc (Obj.cells #[Value.bool n2, Value.slice b (Num.limbs y).length cb] 26)).alloc (Obj.cells #[Value.bool false, Value.slice none 0 0] 26)).heap.size := by simp only [World.size_alloc]; omega
  go_enter Try.func36, Try.ntmps36
  go_wp2_with fail
  generalize (((w.alloc (Obj.cells #[Value.bool n1, Value.slice a (Num.limbs x).length ca] 26)).alloc (Obj.cells #[Value.bool n2, Value.slice b (Num.limbs y).length cb] 26)).alloc (Obj.cells #[Value.bool false, Value.slice none 0 0] 26)) = w1 at *
  refine (leastI x y a b _ _ ca cb _ (HA.out.below HZ.out) (HBB.out.below HZ.out)).mono ?_
  rintro e w2 ⟨rfl, d, hw2⟩
  replace kP0 : w2.cell? ⟨w.heap.size, 0, none⟩ = some (Value.bool n1) := by rw [hw2]; exact kP0
  replace fP0 : w2.frozen? ⟨w.heap.size, 0, none⟩ = false := by rw [hw2]; exact fP0
  replace kP1 : w2.cell? ⟨w.heap.size, 1, none⟩ = some (Value.slice a (Num.limbs x).length ca) := by rw [hw2]; exact kP1
  replace fP1 : w2.frozen? ⟨w.heap.size, 1, none⟩ = false := by rw [hw2]; exact fP1
  replace kQ0 : w2.cell? ⟨w.heap.size + 1, 0, none⟩ = some (Value.bool n2) := by rw [hw2]; exact kQ0
  replace fQ0 : w2.frozen? ⟨w.heap.size + 1, 0, none⟩ = false := by rw [hw2]; exact fQ0
  replace kQ1 : w2.cell? ⟨w.heap.size + 1, 1, none⟩ = some (Value.slice b (Num.limbs y).length cb) := by rw [hw2]; exact kQ1
  replace fQ1 : w2.frozen? ⟨w.heap.size + 1, 1, none⟩ = false := by rw [hw2]; exact fQ1
  replace kR0 : w2.cell? ⟨w.heap.size + 1 + 1, 0, none⟩ = some (Value.bool false) := by rw [hw2]; exact kR0
  replace fR0 : w2.frozen? ⟨w.heap.size + 1 + 1, 0, none⟩ = false := by rw [hw2]; exact fR0
  replace kR1 : w2.cell? ⟨w.heap.size + 1 + 1, 1, none⟩ = some (Value.slice none 0 0) := by rw [hw2]; exact kR1
  replace fR1 : w2.frozen? ⟨w.heap.size + 1 + 1, 1, none⟩ = false := by rw [hw2]; exact fR1
  replace HZ : Hid (Below w.heap.size w w2) := hide (by rw [hw2]; exact below_drewN HZ.out d)
  replace q1 : w.heap.size + 3 ≤ w2.heap.size := by rw [hw2]; exact q1
  clear hw2
  by_cases hxy : x < y
  · rw [cmp_lt (by omega)]
    have hXY : x ≤ y := by omega
    have hlen : (Num.limbs x).length ≤ (Num.limbs y).length := Num.limbs_len.2 (Nat.lt_of_le_of_lt hXY (Num.limbs_len.1 (Nat.le_refl _)))
    go_wp2_with (first
      | (at_make; refine wpList_make_full _ rfl _ _ 24 rfl w2.heap.size 56 i0 (.int .u32 0) 1 Try.underlying24 hi hz0 hz1 _ _ _ _ ((Num.limbs y).length + 1) rfl rfl (by push_cast; rfl) (by push_cast; rfl) (by rw [hz2]; omega) (by unfold maxLen; omega) (by simp) ?_; intro w3 hown hgrow; simp only [World.size_setCell] at hown; replace kP0 : w3.cell? ⟨w.heap.size, 0, none⟩ = some (Value.bool n2) := hgrow.cell (by go_simp) (by simp); replace fP0 : w3.frozen? ⟨w.heap.size, 0, none⟩ = false := (grown_frozen hgrow (by simp only [World.size_setCell]; omega) (by simp)).trans (by go_simp); replace kP1 : w3.cell? ⟨w.heap.size, 1, none⟩ = some (Value.slice b (Num.limbs y).length cb) := hgrow.cell (by go_simp) (by simp); replace fP1 : w3.frozen? ⟨w.heap.size, 1, none⟩ = false := (grown_frozen hgrow (by simp only [World.size_setCell]; omega) (by simp)).trans (by go_simp); replace kQ0 : w3.cell? ⟨w.heap.size + 1, 0, none⟩ = some (Value.bool n1) := hgrow.cell (by go_simp) (by simp); replace fQ0 : w3.frozen? ⟨w.heap.size + 1, 0, none⟩ = false := (grown_frozen hgrow (by simp only [World.size_setCell]; omega) (by simp)).trans (by go_simp); replace kQ1 : w3.cell? ⟨w.heap.size + 1, 1, none⟩ = some (Value.slice a (Num.limbs x).length ca) := hgrow.cell (by go_simp) (by simp); replace fQ1 : w3.frozen? ⟨w.heap.size + 1, 1, none⟩ = false := (grown_frozen hgrow (by simp only [World.size_setCell]; omega) (by simp)).trans (by go_simp); replace kR0 : w3.cell? ⟨w.heap.size + 1 + 1, 0, none⟩ = some (Value.bool false) := hgrow.cell (by go_simp) (by simp); replace fR0 : w3.frozen? ⟨w.heap.size + 1 + 1, 0, none⟩ = false := (grown_frozen hgrow (by simp only [World.size_setCell]; omega) (by simp)).trans (by go_simp); replace kR1 : w3.cell? ⟨w.heap.size + 1 + 1, 1, none⟩ = some (Value.slice none 0 0) := hgrow.cell (by go_simp) (by simp); replace fR1 : w3.frozen? ⟨w.heap.size + 1 + 1, 1, none⟩ = false := (grown_frozen hgrow (by simp only [World.size_setCell]; omega) (by simp)).trans (by go_simp); have HZ3 := hide ((((((HZ.out.setCell (p := ⟨w.heap.size, 0, none⟩) (Nat.le_refl _) _).setCell (p := ⟨w.heap.size, 1, none⟩) (Nat.le_refl _) _).setCell (p := ⟨w.heap.size + 1, 0, none⟩) (by dsimp only; omega) _).setCell (p := ⟨w.heap.size + 1, 1, none⟩) (by dsimp only; omega) _)).grown hgrow (by simp only [World.size_setCell]; omega) (by simp)); have B3 := hide (own_made2 hown).blk; have q3 := B3.out.lt; clear hown hgrow)
      | (refine wpList_copy_lim rfl _ _ 24 24 rfl Try.underlying24 Try.size56 w2.heap.size ((Num.limbs y).length + 1) ((Num.limbs y).length + 1) b (Num.limbs y).length cb rfl rfl _ _ B3.out (by simp) (HBB.out.below HZ3.out) (by omega) ?_; intro w4 hB4 hg4; replace kP0 : w4.cell? ⟨w.heap.size, 0, none⟩ = some (Value.bool n2) := hg4.cell kP0 (by simp; omega); replace fP0 : w4.frozen? ⟨w.heap.size, 0, none⟩ = false := (grown_frozen hg4 (by dsimp only; omega) (by simp; omega)).trans fP0; replace kP1 : w4.cell? ⟨w.heap.size, 1, none⟩ = some (Value.slice b (Num.limbs y).length cb) := hg4.cell kP1 (by simp; omega); replace fP1 : w4.frozen? ⟨w.heap.size, 1, none⟩ = false := (grown_frozen hg4 (by dsimp only; omega) (by simp; omega)).trans fP1; replace kQ0 : w4.cell? ⟨w.heap.size + 1, 0, none⟩ = some (Value.bool n1) := hg4.cell kQ0 (by simp; omega); replace fQ0 : w4.frozen? ⟨w.heap.size + 1, 0, none⟩ = false := (grown_frozen hg4 (by dsimp only; omega) (by simp; omega)).trans fQ0; replace kQ1 : w4.cell? ⟨w.heap.size + 1, 1, none⟩ = some (Value.slice a (Num.limbs x).length ca) := hg4.cell kQ1 (by simp; omega); replace fQ1 : w4.frozen? ⟨w.heap.size + 1, 1, none⟩ = false := (grown_frozen hg4 (by dsimp only; omega) (by simp; omega)).trans fQ1; replace kR0 : w4.cell? ⟨w.heap.size + 1 + 1, 0, none⟩ = some (Value.bool false) := hg4.cell kR0 (by simp; omega); replace fR0 : w4.frozen? ⟨w.heap.size + 1 + 1, 0, none⟩ = false := (grown_frozen hg4 (by dsimp only; omega) (by simp; omega)).trans fR0; replace kR1 : w4.cell? ⟨w.heap.size + 1 + 1, 1, none⟩ = some (Value.slice none 0 0) := hg4.cell kR1 (by simp; omega); replace fR1 : w4.frozen? ⟨w.heap.size + 1 + 1, 1, none⟩ = false := (grown_frozen hg4 (by dsimp only; omega) (by simp; omega)).trans fR1; have HZ4 := hide (HZ3.out.grown hg4 HZ3.out.size (fun k e => by cases e; omega)); have B4 := hide hB4; clear hB4 hg4))
    refine (addI (!n2 == n1) w2.heap.size 0 ((Num.limbs y).length + 1) ((Num.limbs y).length + 1) _ a (Num.limbs x).length ca (Num.limbs x) _ B4.out (by simp) (Nat.le_refl _) (by omega) (HA.out.below HZ4.out) (fun hp gb ob s e => by have := seg_low HA.out hp e; omega)).mono ?_
    rintro e w5 ⟨zs, c, hS, he, hB5, hg5⟩
    obtain ⟨r5, rfl⟩ : ∃ r : Int, e = .returned (.int .u32 r) := ⟨_, he⟩
    clear he
    have q4 := B4.out.lt
    replace kP0 : w5.cell? ⟨w.heap.size, 0, none⟩ = some (Value.bool n2) := hg5.cell kP0 (by simp; omega)
    replace fP0 : w5.frozen? ⟨w.heap.size, 0, none⟩ = false := (grown_frozen hg5 (by dsimp only; omega) (by simp; omega)).trans fP0
    replace kP1 : w5.cell? ⟨w.heap.size, 1, none⟩ = some (Value.slice b (Num.limbs y).length cb) := hg5.cell kP1 (by simp; omega)
    replace fP1 : w5.frozen? ⟨w.heap.size, 1, none⟩ = false := (grown_frozen hg5 (by dsimp only; omega) (by simp; omega)).trans fP1
    replace kQ0 : w5.cell? ⟨w.heap.size + 1, 0, none⟩ = some (Value.bool n1) := hg5.cell kQ0 (by simp; omega)
    replace fQ0 : w5.frozen? ⟨w.heap.size + 1, 0, none⟩ = false := (grown_frozen hg5 (by dsimp only; omega) (by simp; omega)).trans fQ0
    replace kQ1 : w5.cell? ⟨w.heap.size + 1, 1, none⟩ = some (Value.slice a (Num.limbs x).length ca) := hg5.cell kQ1 (by simp; omega)
    replace fQ1 : w5.frozen? ⟨w.heap.size + 1, 1, none⟩ = false := (grown_frozen hg5 (by dsimp only; omega) (by simp; omega)).trans fQ1
    replace kR0 : w5.cell? ⟨w.heap.size + 1 + 1, 0, none⟩ = some (Value.bool false) := hg5.cell kR0 (by simp; omega)
    replace fR0 : w5.frozen? ⟨w.heap.size + 1 + 1, 0, none⟩ = false := (grown_frozen hg5 (by dsimp only; omega) (by simp; omega)).trans fR0
    replace kR1 : w5.cell? ⟨w.heap.size + 1 + 1, 1, none⟩ = some (Value.slice none 0 0) := hg5.cell kR1 (by simp; omega)
    replace fR1 : w5.frozen? ⟨w.heap.size + 1 + 1, 1, none⟩ = false := (grown_frozen hg5 (by dsimp only; omega) (by simp; omega)).trans fR1
    have HZ5 := hide (HZ4.out.grown hg5 HZ4.out.size (fun k e => by cases e; omega))
    have hzl := hS.1
    have HV := hide (sum_val hS hXY)
    have HO5 := hide (sum_own (base := w2.heap.size) hB5 hzl rfl (Nat.le_refl _) (by omega))
    have q5 := hB5.lt
    clear hB5 hg5 hS B3 B4 HZ3 HZ4 q3 q4
    go_wp2_with fail
    refine (bigOfI n2 _ _ _ zs w2.heap.size _ HO5.out (by omega)).mono ?_
    rintro e w6 ⟨v6, rfl, hn6, hb6⟩
    replace kR0 := (hb6.cell (p := ⟨w.heap.size + 1 + 1, 0, none⟩) (by dsimp only; omega)).trans kR0
    replace fR0 := (hb6.frozen (p := ⟨w.heap.size + 1 + 1, 0, none⟩) (by dsimp only; omega)).trans fR0
    replace kR1 := (hb6.cell (p := ⟨w.heap.size + 1 + 1, 1, none⟩) (by dsimp only; omega)).trans kR1
    replace fR1 := (hb6.frozen (p := ⟨w.heap.size + 1 + 1, 1, none⟩) (by dsimp only; omega)).trans fR1
    rw [HV.out, sum_sign2 n1 n2 x y hXY] at hn6
    have HF := hide (fun x y => fin_box (N := w.heap.size + 1 + 1) (x := x) (y := y) hn6 (by omega) (by omega) (bl_trans HZ5.out hb6))
    obtain ⟨a6, c6, rfl, ho6⟩ := hn6
    clear hb6 ho6 HO5 kP0 kP1 kQ0 kQ1 fP0 fP1 fQ0 fQ1
    go_wp2
    refine bodyPost_ret (v := .agg #[.bool (sgn (mk n1 x + mk n2 y)), .slice a6 (lms (mk n1 x + mk n2 y)).length c6]) (by simp [results, Try.results36, go_sem, *]) rfl ?_
    exact ⟨_, rfl, HF.out _ _⟩
  · have hc : (cmpZ (x : Int) y < 0) = False := by
      refine eq_false ?_
      by_cases h : x = y
      · rw [cmp_eq (by omega)]; decide
      · rw [cmp_gt (by omega)]; decide
    have hc' : ¬ cmpZ (x : Int) y < 0 := by rw [hc]; exact id
    clear hc
    generalize cmpZ (x : Int) y = r at *
    have hXY : y ≤ x := by omega
    have hlen : (Num.limbs y).length ≤ (Num.limbs x).length := Num.limbs_len.2 (Nat.lt_of_le_of_lt hXY (Num.limbs_len.1 (Nat.le_refl _)))
    go_wp2_with (first
      | (at_make; refine wpList_make_full _ rfl _ _ 24 rfl w2.heap.size 56 i0 (.int .u32 0) 1 Try.underlying24 hi hz0 hz1 _ _ _ _ ((Num.limbs x).length + 1) rfl rfl (by push_cast; rfl) (by push_cast; rfl) (by rw [hz2]; omega) (by unfold maxLen; omega) (by simp) ?_; intro w3 hown hgrow; skip; replace kP0 : w3.cell? ⟨w.heap.size, 0, none⟩ = some (Value.bool n1) := hgrow.cell kP0 (by simp); replace fP0 : w3.frozen? ⟨w.heap.size, 0, none⟩ = false := (grown_frozen hgrow (by dsimp only; omega) (by simp)).trans fP0; replace kP1 : w3.cell? ⟨w.heap.size, 1, none⟩ = some (Value.slice a (Num.limbs x).length ca) := hgrow.cell kP1 (by simp); replace fP1 : w3.frozen? ⟨w.heap.size, 1, none⟩ = false := (grown_frozen hgrow (by dsimp only; omega) (by simp)).trans fP1; replace kQ0 : w3.cell? ⟨w.heap.size + 1, 0, none⟩ = some (Value.bool n2) := hgrow.cell kQ0 (by simp); replace fQ0 : w3.frozen? ⟨w.heap.size + 1, 0, none⟩ = false := (grown_frozen hgrow (by dsimp only; omega) (by simp)).trans fQ0; replace kQ1 : w3.cell? ⟨w.heap.size + 1, 1, none⟩ = some (Value.slice b (Num.limbs y).length cb) := hgrow.cell kQ1 (by simp); replace fQ1 : w3.frozen? ⟨w.heap.size + 1, 1, none⟩ = false := (grown_frozen hgrow (by dsimp only; omega) (by simp)).trans fQ1; replace kR0 : w3.cell? ⟨w.heap.size + 1 + 1, 0, none⟩ = some (Value.bool false) := hgrow.cell kR0 (by simp); replace fR0 : w3.frozen? ⟨w.heap.size + 1 + 1, 0, none⟩ = false := (grown_frozen hgrow (by dsimp only; omega) (by simp)).trans fR0; replace kR1 : w3.cell? ⟨w.heap.size + 1 + 1, 1, none⟩ = some (Value.slice none 0 0) := hgrow.cell kR1 (by simp); replace fR1 : w3.frozen? ⟨w.heap.size + 1 + 1, 1, none⟩ = false := (grown_frozen hgrow (by dsimp only; omega) (by simp)).trans fR1; have HZ3 := hide (HZ.out.grown hgrow (by omega) (by simp)); have B3 := hide (own_made2 hown).blk; have q3 := B3.out.lt; clear hown hgrow)
      | (refine wpList_copy_lim rfl _ _ 24 24 rfl Try.underlying24 Try.size56 w2.heap.size ((Num.limbs x).length + 1) ((Num.limbs x).length + 1) a (Num.limbs x).length ca rfl rfl _ _ B3.out (by simp) (HA.out.below HZ3.out) (by omega) ?_; intro w4 hB4 hg4; replace kP0 : w4.cell? ⟨w.heap.size, 0, none⟩ = some (Value.bool n1) := hg4.cell kP0 (by simp; omega); replace fP0 : w4.frozen? ⟨w.heap.size, 0, none⟩ = false := (grown_frozen hg4 (by dsimp only; omega) (by simp; omega)).trans fP0; replace kP1 : w4.cell? ⟨w.heap.size, 1, none⟩ = some (Value.slice a (Num.limbs x).length ca) := hg4.cell kP1 (by simp; omega); replace fP1 : w4.frozen? ⟨w.heap.size, 1, none⟩ = false := (grown_frozen hg4 (by dsimp only; omega) (by simp; omega)).trans fP1; replace kQ0 : w4.cell? ⟨w.heap.size + 1, 0, none⟩ = some (Value.bool n2) := hg4.cell kQ0 (by simp; omega); replace fQ0 : w4.frozen? ⟨w.heap.size + 1, 0, none⟩ = false := (grown_frozen hg4 (by dsimp only; omega) (by simp; omega)).trans fQ0; replace kQ1 : w4.cell? ⟨w.heap.size + 1, 1, none⟩ = some (Value.slice b (Num.limbs y).length cb) := hg4.cell kQ1 (by simp; omega); replace fQ1 : w4.frozen? ⟨w.heap.size + 1, 1, none⟩ = false := (grown_frozen hg4 (by dsimp only; omega) (by simp; omega)).trans fQ1; replace kR0 : w4.cell? ⟨w.heap.size + 1 + 1, 0, none⟩ = some (Value.bool false) := hg4.cell kR0 (by simp; omega); replace fR0 : w4.frozen? ⟨w.heap.size + 1 + 1, 0, none⟩ = false := (grown_frozen hg4 (by dsimp only; omega) (by simp; omega)).trans fR0; replace kR1 : w4.cell? ⟨w.heap.size + 1 + 1, 1, none⟩ = some (Value.slice none 0 0) := hg4.cell kR1 (by simp; omega); replace fR1 : w4.frozen? ⟨w.heap.size + 1 + 1, 1, none⟩ = false := (grown_frozen hg4 (by dsimp only; omega) (by simp; omega)).trans fR1; have HZ4 := hide (HZ3.out.grown hg4 HZ3.out.size (fun k e => by cases e; omega)); have B4 := hide hB4; clear hB4 hg4))
    refine (addI (!n1 == n2) w2.heap.size 0 ((Num.limbs x).length + 1) ((Num.limbs x).length + 1) _ b (Num.limbs y).length cb (Num.limbs y) _ B4.out (by simp) (Nat.le_refl _) (by omega) (HBB.out.below HZ4.out) (fun hp gb ob s e => by have := seg_low HBB.out hp e; omega)).mono ?_
    rintro e w5 ⟨zs, c, hS, he, hB5, hg5⟩
    obtain ⟨r5, rfl⟩ : ∃ r : Int, e = .returned (.int .u32 r) := ⟨_, he⟩
    clear he
    have q4 := B4.out.lt
    replace kP0 : w5.cell? ⟨w.heap.size, 0, none⟩ = some (Value.bool n1) := hg5.cell kP0 (by simp; omega)
    replace fP0 : w5.frozen? ⟨w.heap.size, 0, none⟩ = false := (grown_frozen hg5 (by dsimp only; omega) (by simp; omega)).trans fP0
    replace kP1 : w5.cell? ⟨w.heap.size, 1, none⟩ = some (Value.slice a (Num.limbs x).length ca) := hg5.cell kP1 (by simp; omega)
    replace fP1 : w5.frozen? ⟨w.heap.size, 1, none⟩ = false := (grown_frozen hg5 (by dsimp only; omega) (by simp; omega)).trans fP1
    replace kQ0 : w5.cell? ⟨w.heap.size + 1, 0, none⟩ = some (Value.bool n2) := hg5.cell kQ0 (by simp; omega)
    replace fQ0 : w5.frozen? ⟨w.heap.size + 1, 0, none⟩ = false := (grown_frozen hg5 (by dsimp only; omega) (by simp; omega)).trans fQ0
    replace kQ1 : w5.cell? ⟨w.heap.size + 1, 1, none⟩ = some (Value.slice b (Num.limbs y).length cb) := hg5.cell kQ1 (by simp; omega)
    replace fQ1 : w5.frozen? ⟨w.heap.size + 1, 1, none⟩ = false := (grown_frozen hg5 (by dsimp only; omega) (by simp; omega)).trans fQ1
    replace kR0 : w5.cell? ⟨w.heap.size + 1 + 1, 0, none⟩ = some (Value.bool false) := hg5.cell kR0 (by simp; omega)
    replace fR0 : w5.frozen? ⟨w.heap.size + 1 + 1, 0, none⟩ = false := (grown_frozen hg5 (by dsimp only; omega) (by simp; omega)).trans fR0
    replace kR1 : w5.cell? ⟨w.heap.size + 1 + 1, 1, none⟩ = some (Value.slice none 0 0) := hg5.cell kR1 (by simp; omega)
    replace fR1 : w5.frozen? ⟨w.heap.size + 1 + 1, 1, none⟩ = false := (grown_frozen hg5 (by dsimp only; omega) (by simp; omega)).trans fR1
    have HZ5 := hide (HZ4.out.grown hg5 HZ4.out.size (fun k e => by cases e; omega))
    have hzl := hS.1
    have HV := hide (sum_val hS hXY)
    have HO5 := hide (sum_own (base := w2.heap.size) hB5 hzl rfl (Nat.le_refl _) (by omega))
    have q5 := hB5.lt
    clear hB5 hg5 hS B3 B4 HZ3 HZ4 q3 q4
    go_wp2_with fail
    refine (bigOfI n1 _ _ _ zs w2.heap.size _ HO5.out (by omega)).mono ?_
    rintro e w6 ⟨v6, rfl, hn6, hb6⟩
    replace kR0 := (hb6.cell (p := ⟨w.heap.size + 1 + 1, 0, none⟩) (by dsimp only; omega)).trans kR0
    replace fR0 := (hb6.frozen (p := ⟨w.heap.size + 1 + 1, 0, none⟩) (by dsimp only; omega)).trans fR0
    replace kR1 := (hb6.cell (p := ⟨w.heap.size + 1 + 1, 1, none⟩) (by dsimp only; omega)).trans kR1
    replace fR1 := (hb6.frozen (p := ⟨w.heap.size + 1 + 1, 1, none⟩) (by dsimp only; omega)).trans fR1
    rw [HV.out, sum_sign n1 n2 x y hXY] at hn6
    have HF := hide (fun x y => fin_box (N := w.heap.size + 1 + 1) (x := x) (y := y) hn6 (by omega) (by omega) (bl_trans HZ5.out hb6))
    obtain ⟨a6, c6, rfl, ho6⟩ := hn6
    clear hb6 ho6 HO5 kP0 kP1 kQ0 kQ1 fP0 fP1 fQ0 fQ1
    go_wp2
    refine bodyPost_ret (v := .agg #[.bool (sgn (mk n1 x + mk n2 y)), .slice a6 (lms (mk n1 x + mk n2 y)).length c6]) (by simp [results, Try.results36, go_sem, *]) rfl ?_
    exact ⟨_, rfl, HF.out _ _⟩
end Go.Proofs.Ythjapjbiclkhcaa

/- The walks of bigDifference, and of what lets a right number by: ifRight, l02Fit. -/
namespace Go.Proofs.Ythjapjbiclkhcaa
open Go.RowKit
set_option linter.unusedVariables false

theorem mk_not (n : Bool) (y : Nat) : mk (!n) y = - mk n y := by cases n <;> simp [mk]

set_option maxHeartbeats 1000000 in
set_option maxRecDepth 20000 in
theorem diffI (v1 v2 : Value) (n1 n2 : Bool) (x y : Nat) (w : World) (h1 : Raw w v1 n1 (Num.limbs x)) (h2 : Raw w v2 n2 (Num.limbs y)) (l1 : (Num.limbs x).length ≤ 1048576) (l2 : (Num.limbs y).length ≤ 1048576) :
    Calls Try.prog 84 #[v1, v2] w fun e w' => ∃ v, e = .returned v ∧ New w' w.heap.size v (mk n1 x - mk n2 y) ∧ Below w.heap.size w w' := by
  obtain ⟨a, ca, rfl, ha⟩ := h1
  obtain ⟨b, cb, rfl, hb⟩ := h2
  have HZ := hide (bl_alloc (bl_alloc (bl_alloc (bl_refl w) (Obj.cells #[Value.bool n1, Value.slice a (Num.limbs x).length ca] 26)) (Obj.cells #[Value.bool !n2, Value.slice b (Num.limbs y).length cb] 26)) (Obj.cells #[Value.bool false, Value.slice none 0 0] 26))
  have HA := hide (ha.below HZ.out)
  have HBB := hide (hb.below HZ.out)
  clear ha hb
  have kR0 : (((w.alloc (Obj.cells #[Value.bool n1, Value.slice a (Num.limbs x).length ca] 26)).alloc (Obj.cells #[Value.bool !n2, Value.slice b (Num.limbs y).length cb] 26)).alloc (Obj.cells #[Value.bool false, Value.slice none 0 0] 26)).cell? ⟨w.heap.size + 1 + 1, 0, none⟩ = some (.bool false) := by go_simp
  have kR1 : (((w.alloc (Obj.cells #[Value.bool n1, Value.slice a (Num.limbs x).length ca] 26)).alloc (Obj.cells #[Value.bool !n2, Value.slice b (Num.limbs y).length cb] 26)).alloc (Obj.cells #[Value.bool false, Value.slice none 0 0] 26)).cell? ⟨w.heap.size + 1 + 1, 1, none⟩ = some (.slice none 0 0) := by go_simp
  have fR0 : (((w.alloc (Obj.cells #[Value.bool n1, Value.slice a (Num.limbs x).length ca] 26)).alloc (Obj.cells #[Value.bool !n2, Value.slice b (Num.limbs y).length cb] 26)).alloc (Obj.cells #[Value.bool false, Value.slice none 0 0] 26)).frozen? ⟨w.heap.size + 1 + 1, 0, none⟩ = false := by go_simp
  have fR1 : (((w.alloc (Obj.cells #[Value.bool n1, Value.slice a (Num.limbs x).length ca] 26)).alloc (Obj.cells #[Value.bool !n2, Value.slice b (Num.limbs y).length cb] 26)).alloc (Obj.cells #[Value.bool false, Value.slice none 0 0] 26)).frozen? ⟨w.heap.size + 1 + 1, 1, none⟩ = false := by go_simp
  have zR : w.heap.size + 1 + 1 < (((w.alloc (Obj.cells #[Value.bool n1, Value.slice a (Num.limbs x).length ca] 26)).alloc (Obj.cells #[Value.bool !n2, Value.slice b (Num.limbs y).length cb] 26)).alloc (Obj.cells #[Value.bool false, Value.slice none 0 0] 26)).heap.size := by simp only [World.size_alloc]; omega
  have HE : Hid (mk n1 x + mk (!n2) y = mk n1 x - mk n2 y) := hide (by rw [mk_not]; omega)
  go_enter Try.func84, Try.ntmps84
  go_wp2_with fail
  generalize (((w.alloc (Obj.cells #[Value.bool n1, Value.slice a (Num.limbs x).length ca] 26)).alloc (Obj.cells #[Value.bool !n2, Value.slice b (Num.limbs y).length cb] 26)).alloc (Obj.cells #[Value.bool false, Value.slice none 0 0] 26)) = w1 at *
  refine (sumI _ _ n1 (!n2) x y _ ⟨a, ca, rfl, HA.out⟩ ⟨b, cb, rfl, HBB.out⟩ l1 l2).mono ?_
  rintro e w2 ⟨v2, rfl, hn2, hb2⟩
  rw [HE.out] at hn2
  obtain ⟨k0, k1, f0, f1⟩ := box_keep (N := w.heap.size + 1 + 1) hb2 zR kR0 kR1 fR0 fR1
  have HF := hide (fun x y => fin_box (N := w.heap.size + 1 + 1) (x := x) (y := y) hn2 zR (by omega) (bl_trans HZ.out hb2))
  obtain ⟨a2, c2, rfl, ho2⟩ := hn2
  clear hb2 ho2 kR0 kR1 fR0 fR1 HA HBB HZ
  go_wp2
  refine bodyPost_ret (v := .agg #[.bool (sgn (mk n1 x - mk n2 y)), .slice a2 (lms (mk n1 x - mk n2 y)).length c2]) (by simp [results, Try.results84, go_sem, *]) rfl ?_
  exact ⟨_, rfl, HF.out _ _⟩

/-- a number of at most 40 limbs, or none -/
def fits (z : Int) : Bool := decide (z.natAbs < 4294967296 ^ 40)
def fitZ (z : Int) : Int := if fits z then z else 0
theorem zero_sgn : sgn 0 = false := rfl
theorem zero_lms : lms 0 = [] := Num.limbs_zero
theorem new_zero (W : World) (base : Nat) : New W base (.agg #[.bool false, .slice none 0 0]) 0 := ⟨none, 0, by rw [zero_sgn, zero_lms]; rfl, by rw [zero_lms]; exact Own.nil _ _⟩
theorem ret_fit {v : Value} {t u : Bool} (h : t = u) : Ending.returned (.tuple #[v, .bool t]) = .returned (.tuple #[v, .bool u]) := by rw [h]

set_option maxHeartbeats 1000000 in
set_option maxRecDepth 20000 in
theorem fitI (v : Value) (z : Int) (base : Nat) (w : World) (h : New w base v z) (hbase : base ≤ w.heap.size) :
    Calls Try.prog 35 #[v] w fun e w' => ∃ v', e = .returned (.tuple #[v', .bool (fits z)]) ∧ New w' base v' (fitZ z) ∧ Below w.heap.size w w' := by
  obtain ⟨a, c, rfl, ho⟩ := h
  have HZ := hide (bl_alloc (bl_alloc (bl_refl w) (Obj.cells #[Value.bool (sgn z), Value.slice a (lms z).length c] 26)) (Obj.cells #[Value.bool false, Value.slice none 0 0] 26))
  have HO := hide (ho.below HZ.out)
  have HOw := hide ho
  clear ho
  have kA0 : ((w.alloc (Obj.cells #[Value.bool (sgn z), Value.slice a (lms z).length c] 26)).alloc (Obj.cells #[Value.bool false, Value.slice none 0 0] 26)).cell? ⟨w.heap.size, 0, none⟩ = some (.bool (sgn z)) := by go_simp
  have kA1 : ((w.alloc (Obj.cells #[Value.bool (sgn z), Value.slice a (lms z).length c] 26)).alloc (Obj.cells #[Value.bool false, Value.slice none 0 0] 26)).cell? ⟨w.heap.size, 1, none⟩ = some (.slice a (lms z).length c) := by go_simp
  have kR0 : ((w.alloc (Obj.cells #[Value.bool (sgn z), Value.slice a (lms z).length c] 26)).alloc (Obj.cells #[Value.bool false, Value.slice none 0 0] 26)).cell? ⟨w.heap.size + 1, 0, none⟩ = some (.bool false) := by go_simp
  have kR1 : ((w.alloc (Obj.cells #[Value.bool (sgn z), Value.slice a (lms z).length c] 26)).alloc (Obj.cells #[Value.bool false, Value.slice none 0 0] 26)).cell? ⟨w.heap.size + 1, 1, none⟩ = some (.slice none 0 0) := by go_simp
  have fR0 : ((w.alloc (Obj.cells #[Value.bool (sgn z), Value.slice a (lms z).length c] 26)).alloc (Obj.cells #[Value.bool false, Value.slice none 0 0] 26)).frozen? ⟨w.heap.size + 1, 0, none⟩ = false := by go_simp
  have fR1 : ((w.alloc (Obj.cells #[Value.bool (sgn z), Value.slice a (lms z).length c] 26)).alloc (Obj.cells #[Value.bool false, Value.slice none 0 0] 26)).frozen? ⟨w.heap.size + 1, 1, none⟩ = false := by go_simp
  have zR : w.heap.size + 1 < ((w.alloc (Obj.cells #[Value.bool (sgn z), Value.slice a (lms z).length c] 26)).alloc (Obj.cells #[Value.bool false, Value.slice none 0 0] 26)).heap.size := by simp only [World.size_alloc]; omega
  go_enter Try.func35, Try.ntmps35
  go_wp2_with fail
  generalize ((w.alloc (Obj.cells #[Value.bool (sgn z), Value.slice a (lms z).length c] 26)).alloc (Obj.cells #[Value.bool false, Value.slice none 0 0] 26)) = w1 at *
  refine (okI _ (sgn z) (lms z) _ ⟨a, c, rfl, HO.out.seg⟩).mono ?_
  rintro e w2 ⟨rfl, hb2⟩
  rw [ok_of_num z]
  obtain ⟨k0, k1, f0, f1⟩ := box_keep (N := w.heap.size + 1) hb2 zR kR0 kR1 fR0 fR1
  replace kA0 := (hb2.cell (p := ⟨w.heap.size, 0, none⟩) (by dsimp only; omega)).trans kA0
  replace kA1 := (hb2.cell (p := ⟨w.heap.size, 1, none⟩) (by dsimp only; omega)).trans kA1
  have q := hb2.size
  replace HZ := hide (bl_trans HZ.out hb2)
  clear hb2 kR0 kR1 fR0 fR1 HO
  cases hf : decide (z.natAbs < 4294967296 ^ 40) with
  | false =>
    have HF1 : Hid (fits z = false) := hide hf
    have HF2 : Hid (fitZ z = 0) := hide (by unfold fitZ; rw [HF1.out]; rfl)
    clear hf
    go_wp2
    refine bodyPost_ret (v := .tuple #[.agg #[.bool false, .slice none 0 0], .bool false]) (by simp [results, Try.results35, go_sem, *]) rfl ?_
    rw [HF1.out, HF2.out]
    exact ⟨_, rfl, new_zero _ _, (HZ.out.setCell (p := ⟨w.heap.size + 1, 0, none⟩) (by dsimp only; omega) _).setCell (p := ⟨w.heap.size + 1, 1, none⟩) (by dsimp only; omega) _⟩
  | true =>
    have HF1 : Hid (fits z = true) := hide hf
    have HF2 : Hid (fitZ z = z) := hide (by unfold fitZ; rw [HF1.out]; rfl)
    clear hf
    go_wp2
    refine bodyPost_ret (v := .tuple #[.agg #[.bool (sgn z), .slice a (lms z).length c], .bool true]) (by simp [results, Try.results35, go_sem, *]) rfl ?_
    rw [HF1.out, HF2.out]
    have hbl := (HZ.out.setCell (p := ⟨w.heap.size + 1, 0, none⟩) (by dsimp only; omega) (Value.bool (sgn z))).setCell (p := ⟨w.heap.size + 1, 1, none⟩) (by dsimp only; omega) (Value.slice a (lms z).length c)
    exact ⟨_, rfl, ⟨a, c, rfl, HOw.out.below hbl⟩, hbl⟩

end Go.Proofs.Ythjapjbiclkhcaa

/- The walk of l02Times: the product of two lists of limbs, in new memory. -/
namespace Go.Proofs.Ythjapjbiclkhcaa
open Go.RowKit
set_option linter.unusedVariables false

theorem wrap_i {a : Int} (h0 : -9223372036854775808 ≤ a) (h1 : a ≤ 9223372036854775807) : IntKind.i64.wrap a = a := by rw [IntKind.wrap_i64]; omega
theorem wrap_u {a : Int} (h0 : 0 ≤ a) (h1 : a ≤ 18446744073709551615) : IntKind.u64.wrap a = a := by rw [IntKind.wrap_u64]; omega

set_option maxHeartbeats 8000000 in
set_option maxRecDepth 20000 in
theorem timesS (a b : Option Addr) (n m ca cb : Nat) (xs ys : List Nat) (w : World) (ha : Seg w a n ca xs) (hb : Seg w b m cb ys) (hn : n ≤ 500000) (hm : m ≤ 500000) :
    Calls Try.prog 80 #[.slice a n ca, .slice b m cb] w fun e w' => ∃ zs, e = .returned (.slice (some ⟨w.heap.size, 0, none⟩) (n + m) (n + m)) ∧ Own w' w.heap.size (some ⟨w.heap.size, 0, none⟩) (n + m) (n + m) zs ∧ Num.nat zs = Num.nat xs * Num.nat ys ∧ Below w.heap.size w w' := by
  obtain ⟨i0, hi, hz0, hz1, hz2⟩ := info_parts Try.info56
  obtain rfl := ha.1
  obtain rfl := hb.1
  have hca := ha.2.1
  have hcm := ha.2.2.1
  have hcb := hb.2.1
  have hcbm := hb.2.2.1
  have HA := hide ha
  have HBB := hide hb
  clear ha hb
  go_enter Try.func80, Try.ntmps80
  go_wp2_with (at_make; refine wpList_make_full _ rfl _ _ 24 rfl w.heap.size 56 i0 (.int .u32 0) 1 Try.underlying24 hi hz0 hz1 _ _ _ _ (xs.length + ys.length) rfl rfl (by push_cast; rfl) (by push_cast; rfl) (by rw [hz2]; omega) (by unfold maxLen; omega) (Nat.le_refl _) ?_; intro w3 hown hgrow; have HZ3 := hide ((bl_refl w).grown hgrow (Nat.le_refl _) (by simp)); have B3 := hide (own_made2 hown).blk; have q3 := B3.out.lt; clear hown hgrow)
  go_loopw [6, 7, 8, 9] (fun i _ _ _ wr => ∃ (k : Nat) (Y : List Nat), k ≤ xs.length ∧ i = .int .i64 k ∧ Y.length = xs.length + ys.length ∧ Hid (Blk wr w.heap.size Y) ∧ Hid (Num.nat (Y.drop (k + ys.length)) = 0) ∧ Hid (Num.nat Y = Num.nat (xs.take k) * Num.nat ys) ∧ Hid (Below w.heap.size w wr)) (fun i _ _ _ _ => xs.length - (intOf i).toNat)
  case atStart => exact ⟨0, List.replicate (xs.length + ys.length) 0, Nat.zero_le _, rfl, by simp, B3, hide (by rw [List.drop_replicate]; exact Num.nat_replicate _), hide (by rw [Num.nat_replicate]; simp [Num.nat]), HZ3⟩
  case round =>
    obtain ⟨k, Y, hk, rfl, hYl, hB, h0, hN, hZ⟩ := hrel
    by_cases hlt : k < xs.length
    · have hlt' : (k : Int) < (xs.length : Int) := by omega
      have hsm := Num.small_at HA.out.2.2.2.1 hlt
      have HPS := hide (fun zs c hT => prod_step (c := c) (zs := zs) hlt hYl h0.out hN.out hT)
      have HXK : Hid (∀ W, Below w.heap.size w W → ∃ g o, a = some ⟨g, o, none⟩ ∧ W.cell? ⟨g, o + k, none⟩ = some (.int .u32 xs[k])) := hide (fun W hW => by
        obtain ⟨g, o, ha, _, hc⟩ := seg_cell (HA.out.below hW) k hlt
        exact ⟨g, o, ha, hc⟩)
      generalize xs[k] = f at *
      clear h0 hN
      go_wp2_with fail
      go_loopw [7, 8, 9] (fun cv jv _ wi => ∃ (j c : Nat) (zs : List Nat), j ≤ ys.length ∧ jv = .int .i64 j ∧ cv = .int .u64 c ∧ c < 4294967296 ∧ Hid (TSo f (Y.drop k) ys zs j c) ∧ Hid (Blk wi w.heap.size (Y.take k ++ zs ++ Y.drop (k + j))) ∧ Hid (Below w.heap.size w wi)) (fun _ jv _ _ => ys.length - (intOf jv).toNat)
      case atStart => exact ⟨0, 0, [], Nat.zero_le _, rfl, rfl, by omega, hide ⟨rfl, (fun x hx => by cases hx), by omega, by simp [Num.nat]⟩, hide (by have := hB.out; simpa using this), hZ⟩
      case round =>
        obtain ⟨j, c, zs, hj, rfl, rfl, hc, hS, hbk, hZi⟩ := hrel
        have hzl := hS.out.1
        have hfz := hbk.out.frozen (k + j)
        have hls : Y[k + j]'(by omega) < 4294967296 := Num.small_at hB.out.2 (by omega)
        have hcl := hbk.out.cell (k + j) (by rw [mid_len hzl (by omega)]; omega)
        rw [mid_at hzl (by omega)] at hcl
        have HLD : Hid ((Y.drop k).getD j 0 = Y[k + j]'(by omega)) := hide (drop_getD (by omega))
        have HST := hide (fun x hx => hbk.out.set (k + j) x hx)
        have HMS := hide (fun x => mid_set (x := x) hzl (show k + j < Y.length by omega))
        generalize Y[k + j]'_ = l at *
        have hw1 := wrap_i (a := (k : Int) + (j : Int)) (by omega) (by omega)
        have hidx : (k : Int) + (j : Int) < (xs.length : Int) + (ys.length : Int) := by omega
        by_cases hjt : j < ys.length
        · have hjt' : (j : Int) < (ys.length : Int) := by omega
          obtain ⟨ga, oa, rfl, hca2⟩ := HXK.out _ hZi.out
          obtain ⟨gb, ob, rfl, hgb, hcb2⟩ := seg_cell (HBB.out.below hZi.out) j hjt
          have hps := Num.small_at HBB.out.2.2.2.1 hjt
          have HPD : Hid (ys.getD j 0 = ys[j]) := hide (by simp [hjt])
          generalize ys[j] = p at *
          have hMb := prod_le hsm hps
          have hM0 : (f : Int) * (p : Int) = ((f * p : Nat) : Int) := (Int.natCast_mul f p).symm
          have HTS := hide (fun hb => tso_step (t := f * p + l + c) hS.out HLD.out HPD.out rfl hb)
          clear hS
          generalize f * p = M at *
          have hw2 := wrap_u (a := (M : Int)) (by omega) (by omega)
          have hw3 := wrap_u (a := (M : Int) + (l : Int)) (by omega) (by omega)
          have hw4 := wrap_u (a := (M : Int) + (l : Int) + (c : Int)) (by omega) (by omega)
          have e32 := and32 ((M : Int) + (l : Int) + (c : Int)) (by omega) (by omega)
          go_wp2_with fail
          go_quiet (fail)
          go_wp2
          refine ⟨⟨j + 1, (M + l + c) / 4294967296, zs ++ [(M + l + c) % 4294967296], by omega, by go_num, by go_num, by omega, hide (HTS.out (by omega)), ?_⟩, by simp [intOf]; omega⟩
          have hs := (hbk.out.below (below_drewN (bl_refl wr) nq)).set (k + j) ((M + l + c) % 4294967296) (by omega)
          rw [HMS.out] at hs
          have ev : ((M : Int) + (l : Int) + (c : Int)) % 4294967296 = (((M + l + c) % 4294967296 : Nat) : Int) := by omega
          rw [ev]
          exact ⟨hide hs.1, hide ((below_drewN hZi.out nq).setCell (p := ⟨w.heap.size, k + j, none⟩) (Nat.le_refl _) _)⟩
        · obtain rfl : j = ys.length := by omega
          have HN5 := hide (HPS.out zs c hS.out)
          have hs := HST.out c hc
          rw [HMS.out] at hs
          have HS5 := hide hs.1
          clear hs
          go_wp2
          refine ⟨⟨k + 1, _, by omega, by go_num, HN5.out.1, HS5, hide HN5.out.2.1, hide HN5.out.2.2, hide (hZi.out.setCell (p := ⟨w.heap.size, k + ys.length, none⟩) (Nat.le_refl _) _)⟩, by simp [intOf]; omega⟩
    · obtain rfl : k = xs.length := by omega
      have HO := hide (hB.out.own (base := w.heap.size) (Nat.le_refl _) (by omega))
      rw [hYl] at HO
      go_wp2
      go_ret
      refine ⟨Y, rfl, HO.out, ?_, hZ.out⟩
      rw [hN.out, List.take_of_length_le (Nat.le_refl _)]
end Go.Proofs.Ythjapjbiclkhcaa

/- The walks of l02Short and divideShort: a list of limbs divided by one limb, in new memory. -/
namespace Go.Proofs.Ythjapjbiclkhcaa
open Go.RowKit
set_option linter.unusedVariables false

/-- the quotient and the rest so far: the limbs from place k on -/
def DSo (d : Nat) (xs qs : List Nat) (k r : Nat) : Prop :=
  qs.length = xs.length ∧ Num.Small qs ∧ r < d ∧ Num.nat (xs.drop k) = Num.nat (qs.drop k) * d + r
theorem quot_lt {d r x : Nat} (hr : r < d) (hx : x < 4294967296) : (r * 4294967296 + x) / d < 4294967296 := by
  rw [Nat.div_lt_iff_lt_mul (by omega)]
  have : (r + 1) * 4294967296 ≤ d * 4294967296 := Nat.mul_le_mul_right _ hr
  rw [Nat.add_mul] at this
  rw [Nat.mul_comm 4294967296 d]
  omega
theorem own_one (w : World) (p : Nat) (hp : p < 4294967296) : Own (w.alloc (Obj.cells #[Value.int .u32 p] 56)) w.heap.size (some ⟨w.heap.size, 0, none⟩) 1 1 [p] := by
  refine ⟨?_, fun x hx => ?_⟩
  · have := World.ownsRow_lit (base := w.heap.size) (e := 56) (size := 1) w #[Value.int .u32 p] 1 (Nat.le_refl _) (by unfold maxLen; omega) rfl
    simpa [lim] using this
  · simp at hx; omega
theorem dso_step {d : Nat} {xs qs : List Nat} {k r x : Nat} (h : DSo d xs qs (k + 1) r) (hk : k < xs.length) (hx : xs[k] = x) (hd : d < 4294967296) (hxs : x < 4294967296) :
    DSo d xs (qs.set k ((r * 4294967296 + x) / d)) k ((r * 4294967296 + x) % d) := by
  obtain ⟨h1, h2, h3, h4⟩ := h
  have hd0 : 0 < d := by omega
  have hq : (r * 4294967296 + x) / d < 4294967296 := by
    rw [Nat.div_lt_iff_lt_mul hd0]
    have : (r + 1) * 4294967296 ≤ d * 4294967296 := Nat.mul_le_mul_right _ h3
    rw [Nat.add_mul] at this
    rw [Nat.mul_comm 4294967296 d]
    omega
  have hkq : k < qs.length := by omega
  refine ⟨by rw [List.length_set]; exact h1, Num.small_set h2 _ _ hq, Nat.mod_lt _ hd0, ?_⟩
  have e1 : (qs.set k ((r * 4294967296 + x) / d)).drop k = ((r * 4294967296 + x) / d) :: qs.drop (k + 1) := by
    rw [List.drop_set, if_neg (by omega), Nat.sub_self, List.drop_eq_getElem_cons hkq, List.set_cons_zero]
  rw [e1, Num.nat_drop xs k hk, hx, h4, Num.nat]
  have e2 := Nat.div_add_mod (r * 4294967296 + x) d
  rw [Nat.add_mul, Nat.mul_comm ((r * 4294967296 + x) / d) d]
  generalize d * ((r * 4294967296 + x) / d) = A at *
  rw [Nat.mul_add, Nat.mul_assoc 4294967296]
  generalize 4294967296 * (Num.nat (qs.drop (k + 1)) * d) = B at *
  omega

set_option maxHeartbeats 4000000 in
set_option maxRecDepth 20000 in
theorem shortS (a : Option Addr) (n ca d : Nat) (xs : List Nat) (w : World) (ha : Seg w a n ca xs) (hn : n ≤ 1000000) (hd0 : 0 < d) (hd : d < 4294967296) :
    Calls Try.prog 96 #[.slice a n ca, .int .u32 d] w fun e w' => ∃ (g2 : Nat) (qs : List Nat) (r : Nat), e = .returned (.tuple #[.slice (some ⟨w.heap.size, 0, none⟩) n n, .slice (some ⟨g2, 0, none⟩) 1 1]) ∧ w.heap.size < g2 ∧ DSo d xs qs 0 r ∧ Own w' w.heap.size (some ⟨w.heap.size, 0, none⟩) n n qs ∧ Own w' g2 (some ⟨g2, 0, none⟩) 1 1 [r] ∧ Below w.heap.size w w' := by
  obtain ⟨i0, hi, hz0, hz1, hz2⟩ := info_parts Try.info56
  obtain rfl := ha.1
  have hca := ha.2.1
  have hcm := ha.2.2.1
  have HA := hide ha
  clear ha
  go_enter Try.func96, Try.ntmps96
  go_wp2_with (at_make; refine wpList_make_full _ rfl _ _ 24 rfl w.heap.size 56 i0 (.int .u32 0) 1 Try.underlying24 hi hz0 hz1 _ _ _ _ xs.length rfl rfl rfl rfl (by rw [hz2]; omega) (by unfold maxLen; omega) (Nat.le_refl _) ?_; intro w3 hown hgrow; have HZ3 := hide ((bl_refl w).grown hgrow (Nat.le_refl _) (by simp)); have B3 := hide (own_made2 hown).blk; clear hown hgrow)
  go_loopw [7, 8, 9] (fun rv i _ wr => ∃ (k r : Nat) (qs : List Nat), k ≤ xs.length ∧ i = .int .i64 ((k : Int) - 1) ∧ rv = .int .u64 r ∧ r < d ∧ Hid (DSo d xs qs k r) ∧ Hid (Blk wr w.heap.size qs) ∧ Hid (Below w.heap.size w wr)) (fun _ i _ _ => (intOf i + 1).toNat)
  case atStart =>
    refine ⟨xs.length, 0, List.replicate xs.length 0, Nat.le_refl _, by go_num, rfl, hd0, hide ⟨by simp, Num.small_replicate _, hd0, ?_⟩, B3, HZ3⟩
    rw [List.drop_eq_nil_of_le (Nat.le_refl _), List.drop_eq_nil_of_le (by simp)]; simp [Num.nat]
  case round =>
    obtain ⟨k, r, qs, hk, rfl, rfl, hr, hS, hB, hZ⟩ := hrel
    by_cases h0 : k = 0
    · subst h0
      have hr32 : r < 4294967296 := by omega
      have HO := hide (hB.out.own (base := w.heap.size) (Nat.le_refl _) (by rw [hS.out.1]; omega))
      rw [hS.out.1] at HO
      have hlt := hB.out.lt
      go_wp2
      go_ret2
      exact ⟨wr.heap.size, qs, r, rfl, hlt, hS.out, HO.out.below (bl_alloc (bl_refl wr) _), own_one wr r hr32, bl_alloc hZ.out _⟩
    · obtain ⟨j, rfl⟩ : ∃ j, k = j + 1 := ⟨k - 1, by omega⟩
      have ej : (((j + 1 : Nat) : Int) - 1) = (j : Int) := by omega
      rw [ej]
      have hjx : j < xs.length := by omega
      have hjx' : (j : Int) < (xs.length : Int) := by omega
      obtain ⟨g, o, rfl, hg, hc⟩ := seg_cell (HA.out.below hZ.out) j hjx
      have hxs := Num.small_at HA.out.2.2.2.1 hjx
      have HST := hide (dso_step hS.out hjx rfl hd hxs)
      have hql : qs.length = xs.length := hS.out.1
      have hcl := hB.out.cell j (by omega)
      have hfz := hB.out.frozen j
      generalize xs[j] = x at *
      obtain ⟨y, hy⟩ : ∃ y, qs[j]'(by omega) = y := ⟨_, rfl⟩
      rw [hy] at hcl
      clear hy hS
      have hdi : ((d : Int) == 0) = false := by rw [beq_eq_false_iff_ne]; omega
      have hq := quot_lt hr hxs
      have e1 : ((r : Int) * 4294967296 + (x : Int)) % (d : Int) = (((r * 4294967296 + x) % d : Nat) : Int) := by
        rw [Int.natCast_emod, Int.natCast_add, Int.natCast_mul]; rfl
      have e2 : ((r : Int) * 4294967296 + (x : Int)) / (d : Int) % 4294967296 = (((r * 4294967296 + x) / d : Nat) : Int) := by
        have : ((r : Int) * 4294967296 + (x : Int)) / (d : Int) = (((r * 4294967296 + x) / d : Nat) : Int) := by rw [Int.natCast_ediv, Int.natCast_add, Int.natCast_mul]; rfl
        rw [this]
        clear HST this
        generalize (r * 4294967296 + x) / d = q at *
        omega
      have E1 := hide e1
      have E2 := hide e2
      have HSB := hide (hB.out.set j ((r * 4294967296 + x) / d) hq)
      clear e1 e2
      go_wp2
      rw [E1.out, E2.out]
      exact ⟨⟨j, (r * 4294967296 + x) % d, _, by omega, by go_num, rfl, Nat.mod_lt _ hd0, HST, hide HSB.out.1, hide (hZ.out.setCell (p := ⟨w.heap.size, j, none⟩) (Nat.le_refl _) _)⟩, by simp [intOf]⟩
end Go.Proofs.Ythjapjbiclkhcaa

/- The walks of bits.Div32 and divideShort: a list of limbs divided by one limb, in new memory. -/
namespace Go.Proofs.Ythjapjbiclkhcaa
open Go.RowKit
set_option linter.unusedVariables false

theorem or32' (m x : Int) (h0 : 0 ≤ m) (h1 : m < 4294967296) (hx : 0 ≤ x) (hx1 : x < 4294967296) : bits .or .u64 (x * 4294967296) m = x * 4294967296 + m := by
  have h := or32 m x h0 h1 hx hx1
  have e : bits .or .u64 (x * 4294967296) m = bits .or .u64 m (x * 4294967296) := by
    show IntKind.u64.wrap ((BitVec.ofInt 64 (x * 4294967296) ||| BitVec.ofInt 64 m).toNat : Nat) = IntKind.u64.wrap ((BitVec.ofInt 64 m ||| BitVec.ofInt 64 (x * 4294967296)).toNat : Nat)
    rw [BitVec.or_comm]
  rw [e, h]; omega

theorem ret_two32 {a b c d : Int} (h : a = c) (k : b = d) : Ending.returned (.tuple #[.int .u32 a, .int .u32 b]) = .returned (.tuple #[.int .u32 c, .int .u32 d]) := by rw [h, k]

set_option maxHeartbeats 2000000 in
set_option maxRecDepth 20000 in
theorem div32 (r x d : Nat) (w : World) (hr : r < d) (hd : d < 4294967296) (hx : x < 4294967296) :
    Calls Try.prog 98 #[.int .u32 r, .int .u32 x, .int .u32 d] w fun e w' => e = .returned (.tuple #[.int .u32 (((r * 4294967296 + x) / d : Nat) : Int), .int .u32 (((r * 4294967296 + x) % d : Nat) : Int)]) ∧ ∃ m, w' = w.drewN m := by
  have hq := quot_lt hr hx
  have hrm := Nat.mod_lt (r * 4294967296 + x) (show 0 < d by omega)
  have hor := or32' x r (by omega) (by omega) (by omega) (by omega)
  have e1 : ((r : Int) * 4294967296 + (x : Int)) % (d : Int) = (((r * 4294967296 + x) % d : Nat) : Int) := by
    rw [Int.natCast_emod, Int.natCast_add, Int.natCast_mul]; rfl
  have e2 : ((r : Int) * 4294967296 + (x : Int)) / (d : Int) = (((r * 4294967296 + x) / d : Nat) : Int) := by
    rw [Int.natCast_ediv, Int.natCast_add, Int.natCast_mul]; rfl
  have hdr : ¬ (d : Int) ≤ (r : Int) := by omega
  have hd0 : ((d : Int) != 0) = true := by rw [bne_iff_ne]; omega
  have E1 := hide e1
  have E2 := hide e2
  have HQ := hide hq
  have HR := hide hrm
  clear e1 e2 hq hrm
  go_enter Try.func98, Try.ntmps98
  have hdz : ((d : Int) == 0) = false := by rw [beq_eq_false_iff_ne]; omega
  go_wp2_with fail
  go_quiet (fail)
  go_wp2
  go_ret2
  refine ⟨ret_two32 ?_ ?_, nq, rfl⟩
  · rw [E2.out]
    have := HQ.out
    generalize (r * 4294967296 + x) / d = q at *
    omega
  · rw [E1.out]
    have := HR.out
    generalize (r * 4294967296 + x) % d = q at *
    omega

set_option maxHeartbeats 4000000 in
set_option maxRecDepth 20000 in
theorem shortI (a : Option Addr) (n ca d : Nat) (xs : List Nat) (w : World) (ha : Seg w a n ca xs) (hn : n ≤ 1000000) (hd0 : 0 < d) (hd : d < 4294967296) :
    Calls Try.prog 93 #[.slice a n ca, .int .u32 d] w fun e w' => ∃ (qs : List Nat) (r : Nat), e = .returned (.tuple #[.slice (some ⟨w.heap.size, 0, none⟩) n n, .int .u32 r]) ∧ DSo d xs qs 0 r ∧ Own w' w.heap.size (some ⟨w.heap.size, 0, none⟩) n n qs ∧ Below w.heap.size w w' := by
  obtain ⟨i0, hi, hz0, hz1, hz2⟩ := info_parts Try.info56
  obtain rfl := ha.1
  have hca := ha.2.1
  have hcm := ha.2.2.1
  have HA := hide ha
  clear ha
  go_enter Try.func93, Try.ntmps93
  go_wp2_with (at_make; refine wpList_make_full _ rfl _ _ 24 rfl w.heap.size 56 i0 (.int .u32 0) 1 Try.underlying24 hi hz0 hz1 _ _ _ _ xs.length rfl rfl rfl rfl (by rw [hz2]; omega) (by unfold maxLen; omega) (Nat.le_refl _) ?_; intro w3 hown hgrow; have HZ3 := hide ((bl_refl w).grown hgrow (Nat.le_refl _) (by simp)); have B3 := hide (own_made2 hown).blk; clear hown hgrow)
  go_loopw [7, 8] (fun rv i wr => ∃ (k r : Nat) (qs : List Nat), k ≤ xs.length ∧ i = .int .i64 ((k : Int) - 1) ∧ rv = .int .u32 r ∧ r < d ∧ Hid (DSo d xs qs k r) ∧ Hid (Blk wr w.heap.size qs) ∧ Hid (Below w.heap.size w wr)) (fun _ i _ => (intOf i + 1).toNat)
  case atStart =>
    refine ⟨xs.length, 0, List.replicate xs.length 0, Nat.le_refl _, by go_num, rfl, hd0, hide ⟨by simp, Num.small_replicate _, hd0, ?_⟩, B3, HZ3⟩
    rw [List.drop_eq_nil_of_le (Nat.le_refl _), List.drop_eq_nil_of_le (by simp)]; simp [Num.nat]
  case round =>
    obtain ⟨k, r, qs, hk, rfl, rfl, hr, hS, hB, hZ⟩ := hrel
    by_cases h0 : k = 0
    · subst h0
      have HO := hide (hB.out.own (base := w.heap.size) (Nat.le_refl _) (by rw [hS.out.1]; omega))
      rw [hS.out.1] at HO
      go_wp2
      go_ret2
      exact ⟨qs, r, rfl, hS.out, HO.out, hZ.out⟩
    · obtain ⟨j, rfl⟩ : ∃ j, k = j + 1 := ⟨k - 1, by omega⟩
      have ej : (((j + 1 : Nat) : Int) - 1) = (j : Int) := by omega
      rw [ej]
      have hjx : j < xs.length := by omega
      have hjx' : (j : Int) < (xs.length : Int) := by omega
      obtain ⟨g, o, rfl, hg, hc⟩ := seg_cell (HA.out.below hZ.out) j hjx
      have hxs := Num.small_at HA.out.2.2.2.1 hjx
      have HST := hide (dso_step hS.out hjx rfl hd hxs)
      have hql : qs.length = xs.length := hS.out.1
      generalize xs[j] = x at *
      have hq := quot_lt hr hxs
      go_wp2_with fail
      refine (div32 r x d _ hr hd hxs).mono ?_
      rintro e w5 ⟨rfl, m, hw5⟩
      have hB5 : Blk w5 w.heap.size qs := by rw [hw5]; exact hB.out.below (below_drewN (bl_refl wr) m)
      have hZ5 : Hid (Below w.heap.size w w5) := hide (by rw [hw5]; exact below_drewN hZ.out m)
      clear hw5
      have hcl := hB5.cell j (by omega)
      have hfz := hB5.frozen j
      have HSB := hide (hB5.set j ((r * 4294967296 + x) / d) hq)
      obtain ⟨y, hy⟩ : ∃ y, qs[j]'(by omega) = y := ⟨_, rfl⟩
      rw [hy] at hcl
      have hrm := Nat.mod_lt (r * 4294967296 + x) hd0
      clear hy hS hB hB5
      generalize (r * 4294967296 + x) / d = q at *
      generalize (r * 4294967296 + x) % d = r2 at *
      go_wp2
      exact ⟨⟨j, r2, _, by omega, by go_num, rfl, hrm, HST, hide HSB.out.1, hide (hZ5.out.setCell (p := ⟨w.heap.size, j, none⟩) (Nat.le_refl _) _)⟩, by simp [intOf]⟩
end Go.Proofs.Ythjapjbiclkhcaa
