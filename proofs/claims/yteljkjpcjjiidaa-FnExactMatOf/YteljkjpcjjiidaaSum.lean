/- The walks of bigSum and bigDifference: the sum of two numbers of any size, in new memory. -/
import Derived.Test.YteljkjpcjjiidaaAddI
import Derived.Laws.CopyOwn
namespace Go.Proofs.Yteljkjpcjjiidaa
open Go.RowKit
set_option linter.unusedVariables false

theorem lims_at {xs : List Nat} {j : Nat} {u : Value} (h : (xs.map lim)[j]? = some u) : ∃ hj : j < xs.length, u = .int .u32 xs[j] := by
  have hj : j < xs.length := by have := (List.getElem?_eq_some_iff.1 h).1; simpa using this
  exact ⟨hj, by have := (List.getElem?_eq_some_iff.1 h).2; simp [lim] at this; exact this.symm⟩
theorem seg_low {W : World} {b : Option Addr} {m cb : Nat} {ps : List Nat} (h : Seg W b m cb ps) (hm : 0 < m) {gb ob : Nat} {s : Option Nat} (e : b = some ⟨gb, ob, s⟩) : gb < W.heap.size := by
  rcases h.2.2.2.2 with h0 | ⟨g, o, ha, hg, _⟩
  · omega
  · rw [ha] at e; cases e; exact hg
theorem sum_val0 {t : Bool} {X Y nz c B D : Nat} (hX : X < B) (hBD : 2 * B ≤ D) (hXY : Y ≤ X) (hz : nz < D) (h3 : c = 0 ∨ c = 1) (h4 : if t = true then nz + Y + D * c = X + D else nz + D * c = X + Y) : nz = if t = true then X - Y else X + Y := by
  cases t with
  | false =>
    rw [if_neg (by simp)] at h4 ⊢
    rcases h3 with rfl | rfl
    · rw [Nat.mul_zero] at h4; omega
    · rw [Nat.mul_one] at h4; omega
  | true =>
    rw [if_pos rfl] at h4 ⊢
    rcases h3 with rfl | rfl
    · rw [Nat.mul_zero] at h4; omega
    · rw [Nat.mul_one] at h4; omega
theorem pw_two (n : Nat) : 2 * 4294967296 ^ n ≤ 4294967296 ^ (n + 1) := by
  rw [Nat.pow_succ, Nat.mul_comm]; exact Nat.mul_le_mul_left _ (by decide)
theorem zero_or_one {c : Nat} (h : c ≤ 1) : c = 0 ∨ c = 1 := by omega
theorem nat_snoc0 (xs : List Nat) : Num.nat (xs ++ [0]) = Num.nat xs := by
  rw [Num.nat_append, show Num.nat [0] = 0 from rfl, Nat.mul_zero, Nat.add_zero]
theorem rep_drop (n : Nat) : (List.replicate (n + 1) 0).drop n = [0] := by
  rw [List.drop_replicate, Nat.add_sub_cancel_left]; rfl
theorem sum_val {t : Bool} {X Y : Nat} {zs : List Nat} {c : Nat} (h : Sofar t (((Num.limbs X ++ (List.replicate ((Num.limbs X).length + 1) 0).drop (Num.limbs X).length).drop 0).take ((Num.limbs X).length + 1)) (Num.limbs Y) zs ((Num.limbs X).length + 1) c) (hXY : Y ≤ X) :
    Num.nat zs = if t = true then X - Y else X + Y := by
  obtain ⟨h1, h2, h3, h4⟩ := h
  have hX : X < 4294967296 ^ (Num.limbs X).length := Num.limbs_len.1 (Nat.le_refl _)
  have hYl : (Num.limbs Y).length ≤ (Num.limbs X).length := Num.limbs_len.2 (Nat.lt_of_le_of_lt hXY hX)
  have hz := Num.nat_lt h2
  rw [h1] at hz
  have e1 : (Num.limbs X ++ [0]).take ((Num.limbs X).length + 1) = Num.limbs X ++ [0] := List.take_of_length_le (by rw [List.length_append]; exact Nat.le_refl _)
  rw [rep_drop, List.drop_zero, e1, e1, List.take_of_length_le (Nat.le_succ_of_le hYl), nat_snoc0, Num.nat_limbs, Num.nat_limbs] at h4
  exact sum_val0 hX (pw_two _) hXY hz (zero_or_one h3) h4
theorem sum_own {W : World} {g n base : Nat} {X zs : List Nat} (hB : Blk W g ((X ++ (List.replicate (X.length + 1) 0).drop X.length).take 0 ++ zs ++ (X ++ (List.replicate (X.length + 1) 0).drop X.length).drop (0 + n))) (hz : zs.length = n) (hn : n = X.length + 1) (hb : base ≤ g) (hm : n ≤ 9223372036854775807) : Own W base (some ⟨g, 0, none⟩) n n zs := by
  have e : (X ++ (List.replicate (X.length + 1) 0).drop X.length).take 0 ++ zs ++ (X ++ (List.replicate (X.length + 1) 0).drop X.length).drop (0 + n) = zs := by
    rw [rep_drop, List.drop_eq_nil_of_le (by simp; omega)]; simp
  rw [e] at hB
  subst hz
  exact hB.own hb hm
theorem sum_sign (n1 n2 : Bool) (x y : Nat) (h : y ≤ x) : mk n1 (if (!n1 == n2) = true then x - y else x + y) = mk n1 x + mk n2 y := by
  cases n1 <;> cases n2 <;> simp [mk] <;> omega
theorem sum_sign2 (n1 n2 : Bool) (x y : Nat) (h : x ≤ y) : mk n2 (if (!n2 == n1) = true then y - x else y + x) = mk n1 x + mk n2 y := by
  cases n1 <;> cases n2 <;> simp [mk] <;> omega
theorem own_made2 {W : World} {base : Nat} {a : Option Addr} {n : Nat} (h : W.ownsRow base 92 1 (.slice a n n) n (madeCells (Value.int IntKind.u32 0).cells (n * 1)).toList) : Own W base a n n (List.replicate n 0) := by
  rw [Nat.mul_one] at h; exact own_made h
theorem Try.size92 : (Try.prog.info? 92).map (·.size) = some 1 := by kernel_rfl
/-- a copy of limbs into the head of a block -/
theorem wpList_copy_lim {P : Program} {w : World} {ops : Array Oper} {rest : List Oper} {o : Oper} {a : Act} {Q : Exit → Act → World → Prop} (hgd : o.guard = none) (d s : Operand) (dT sT : TypeId)
    (ho : o.op = .call { callee := .builtin .copy, args := #[d, s], argTypes := #[dT, sT] }) (hu : P.underlying dT = some (.slice 92)) (hsz : (P.info? 92).map (·.size) = some 1)
    (g dLen dCap : Nat) (b : Option Addr) (n cb : Nat) (hd : a.eval d = .slice (some ⟨g, 0, none⟩) dLen dCap) (hs : a.eval s = .slice b n cb)
    (ys xs : List Nat) (hB : Blk w g ys) (hl : ys.length = dLen) (hS : Seg w b n cb xs) (hn : n ≤ dLen)
    (h : ∀ w', Blk w' g (xs ++ ys.drop n) → w.grownBy w' (some g) → wpList P ops Q rest (a.put o.dst (goInt n)) w') : wpList P ops Q (o :: rest) a w := by
  have hx := hS.1
  rcases hS.2.2.2.2 with h0 | ⟨g', o', rfl, hg', hc⟩
  · subst h0
    refine wpList_copy_nothing hgd d s dT sT ho 92 hu hsz _ _ _ _ _ _ hd hs (by simp) (h w ?_ ⟨rfl, rfl, rfl, Nat.le_refl _, fun _ _ _ => rfl⟩)
    have : xs = [] := List.eq_nil_of_length_eq_zero hx
    subst this
    simpa using hB
  · have e : ((ys.map lim).toArray.toList.take 0 ++ (xs.map lim ++ (ys.map lim).toArray.toList.drop (0 + (xs.map lim).length))).toArray = ((xs ++ ys.drop n).map lim).toArray := by
      simp [hx]
    have hk : Blk (w.setRow g ((xs ++ ys.drop n).map lim).toArray) g (xs ++ ys.drop n) := ⟨setRow_heap w g _ _ 92 (0, 0) hB.1, Num.small_append hS.2.2.2.1 (Num.small_drop hB.2 n)⟩
    have hgr : w.grownBy (w.setRow g ((xs ++ ys.drop n).map lim).toArray) (some g) := ⟨rfl, rfl, rfl, by simp [World.setRow], fun k hk hne => setRow_other w g k _ (fun e => hne (by rw [e]))⟩
    have hfin := h _ hk hgr
    have hmin : (xs.map lim).length = Nat.min n dLen := by rw [List.length_map, hx]; exact (Nat.min_eq_left hn).symm
    refine wpList_copy_own hgd d s dT sT ho 92 hu hsz g 0 dLen dCap ⟨g', o', none⟩ n cb hd hs _ 92 hB.1 (xs.map lim) hmin ?_ ?_ (one_lims xs) ?_
    · intro j v hv
      obtain ⟨hj, rfl⟩ := lims_at hv
      rw [Addr.add_lit]; exact hc j hj
    · simp; omega
    · rw [e, List.length_map, hx]; exact hfin

set_option maxHeartbeats 4000000 in
set_option maxRecDepth 20000 in
theorem sumI (v1 v2 : Value) (n1 n2 : Bool) (x y : Nat) (w : World) (h1 : Raw w v1 n1 (Num.limbs x)) (h2 : Raw w v2 n2 (Num.limbs y)) (l1 : (Num.limbs x).length ≤ 1048576) (l2 : (Num.limbs y).length ≤ 1048576) :
    Calls Try.prog 97 #[v1, v2] w fun e w' => ∃ v, e = .returned v ∧ New w' w.heap.size v (mk n1 x + mk n2 y) ∧ Below w.heap.size w w' := by
  obtain ⟨i0, hi, hz0, hz1, hz2⟩ := info_parts Try.info92
  obtain ⟨a, ca, rfl, ha⟩ := h1
  obtain ⟨b, cb, rfl, hb⟩ := h2
  have HA := hide ha
  have HBB := hide hb
  clear ha hb
  have HZ := hide (bl_alloc (bl_alloc (bl_alloc (bl_refl w) (Obj.cells #[Value.bool n1, Value.slice a (Num.limbs x).length ca] 54)) (Obj.cells #[Value.bool n2, Value.slice b (Num.limbs y).length cb] 54)) (Obj.cells #[Value.bool false, Value.slice none 0 0] 54))
  have kP0 : (((w.alloc (Obj.cells #[Value.bool n1, Value.slice a (Num.limbs x).length ca] 54)).alloc (Obj.cells #[Value.bool n2, Value.slice b (Num.limbs y).length cb] 54)).alloc (Obj.cells #[Value.bool false, Value.slice none 0 0] 54)).cell? ⟨w.heap.size, 0, none⟩ = some (Value.bool n1) := by go_simp
  have fP0 : (((w.alloc (Obj.cells #[Value.bool n1, Value.slice a (Num.limbs x).length ca] 54)).alloc (Obj.cells #[Value.bool n2, Value.slice b (Num.limbs y).length cb] 54)).alloc (Obj.cells #[Value.bool false, Value.slice none 0 0] 54)).frozen? ⟨w.heap.size, 0, none⟩ = false := by go_simp
  have kP1 : (((w.alloc (Obj.cells #[Value.bool n1, Value.slice a (Num.limbs x).length ca] 54)).alloc (Obj.cells #[Value.bool n2, Value.slice b (Num.limbs y).length cb] 54)).alloc (Obj.cells #[Value.bool false, Value.slice none 0 0] 54)).cell? ⟨w.heap.size, 1, none⟩ = some (Value.slice a (Num.limbs x).length ca) := by go_simp
  have fP1 : (((w.alloc (Obj.cells #[Value.bool n1, Value.slice a (Num.limbs x).length ca] 54)).alloc (Obj.cells #[Value.bool n2, Value.slice b (Num.limbs y).length cb] 54)).alloc (Obj.cells #[Value.bool false, Value.slice none 0 0] 54)).frozen? ⟨w.heap.size, 1, none⟩ = false := by go_simp
  have kQ0 : (((w.alloc (Obj.cells #[Value.bool n1, Value.slice a (Num.limbs x).length ca] 54)).alloc (Obj.cells #[Value.bool n2, Value.slice b (Num.limbs y).length cb] 54)).alloc (Obj.cells #[Value.bool false, Value.slice none 0 0] 54)).cell? ⟨w.heap.size + 1, 0, none⟩ = some (Value.bool n2) := by go_simp
  have fQ0 : (((w.alloc (Obj.cells #[Value.bool n1, Value.slice a (Num.limbs x).length ca] 54)).alloc (Obj.cells #[Value.bool n2, Value.slice b (Num.limbs y).length cb] 54)).alloc (Obj.cells #[Value.bool false, Value.slice none 0 0] 54)).frozen? ⟨w.heap.size + 1, 0, none⟩ = false := by go_simp
  have kQ1 : (((w.alloc (Obj.cells #[Value.bool n1, Value.slice a (Num.limbs x).length ca] 54)).alloc (Obj.cells #[Value.bool n2, Value.slice b (Num.limbs y).length cb] 54)).alloc (Obj.cells #[Value.bool false, Value.slice none 0 0] 54)).cell? ⟨w.heap.size + 1, 1, none⟩ = some (Value.slice b (Num.limbs y).length cb) := by go_simp
  have fQ1 : (((w.alloc (Obj.cells #[Value.bool n1, Value.slice a (Num.limbs x).length ca] 54)).alloc (Obj.cells #[Value.bool n2, Value.slice b (Num.limbs y).length cb] 54)).alloc (Obj.cells #[Value.bool false, Value.slice none 0 0] 54)).frozen? ⟨w.heap.size + 1, 1, none⟩ = false := by go_simp
  have kR0 : (((w.alloc (Obj.cells #[Value.bool n1, Value.slice a (Num.limbs x).length ca] 54)).alloc (Obj.cells #[Value.bool n2, Value.slice b (Num.limbs y).length cb] 54)).alloc (Obj.cells #[Value.bool false, Value.slice none 0 0] 54)).cell? ⟨w.heap.size + 1 + 1, 0, none⟩ = some (Value.bool false) := by go_simp
  have fR0 : (((w.alloc (Obj.cells #[Value.bool n1, Value.slice a (Num.limbs x).length ca] 54)).alloc (Obj.cells #[Value.bool n2, Value.slice b (Num.limbs y).length cb] 54)).alloc (Obj.cells #[Value.bool false, Value.slice none 0 0] 54)).frozen? ⟨w.heap.size + 1 + 1, 0, none⟩ = false := by go_simp
  have kR1 : (((w.alloc (Obj.cells #[Value.bool n1, Value.slice a (Num.limbs x).length ca] 54)).alloc (Obj.cells #[Value.bool n2, Value.slice b (Num.limbs y).length cb] 54)).alloc (Obj.cells #[Value.bool false, Value.slice none 0 0] 54)).cell? ⟨w.heap.size + 1 + 1, 1, none⟩ = some (Value.slice none 0 0) := by go_simp
  have fR1 : (((w.alloc (Obj.cells #[Value.bool n1, Value.slice a (Num.limbs x).length ca] 54)).alloc (Obj.cells #[Value.bool n2, Value.slice b (Num.limbs y).length cb] 54)).alloc (Obj.cells #[Value.bool false, Value.slice none 0 0] 54)).frozen? ⟨w.heap.size + 1 + 1, 1, none⟩ = false := by go_simp
  have q1 : w.heap.size + 3 ≤ (((w.alloc (Obj.cells #[Value.bool n1, Value.slice a (Num.limbs x).length ca] 54)).alloc (Obj.cells #[Value.bool n2, Value.slice b (Num.limbs y).length cb] 54)).alloc (Obj.cells #[Value.bool false, Value.slice none 0 0] 54)).heap.size := by simp only [World.size_alloc]; omega
  go_enter Try.func97, Try.ntmps97
  go_wp2_with fail
  generalize (((w.alloc (Obj.cells #[Value.bool n1, Value.slice a (Num.limbs x).length ca] 54)).alloc (Obj.cells #[Value.bool n2, Value.slice b (Num.limbs y).length cb] 54)).alloc (Obj.cells #[Value.bool false, Value.slice none 0 0] 54)) = w1 at *
  refine (leastI x y a b _ _ ca cb _ (HA.out.below HZ.out) (HBB.out.below HZ.out)).mono ?_
  rintro e w2 ⟨rfl, d, hw2⟩
  replace kP0 : w2.cell? ⟨w.heap.size, 0, none⟩ = some (Value.bool n1) := by rw [hw2]; exact kP0
  replace fP0 : w2.frozen? ⟨w.heap.size, 0, none⟩ = false := by rw [hw2]; exact fP0
  replace kP1 : w2.cell? ⟨w.heap.size, 1, none⟩ = some (Value.slice a (Num.limbs x).length ca) := by rw [hw2]; exact kP1
  replace fP1 : w2.frozen? ⟨w.heap.size, 1, none⟩ = false := by rw [hw2]; exact fP1
  replace kQ0 : w2.cell? ⟨w.heap.size + 1, 0, none⟩ = some (Value.bool n2) := by rw [hw2]; exact kQ0
  replace fQ0 : w2.frozen? ⟨w.heap.size + 1, 0, none⟩ = false := by rw [hw2]; exact fQ0
  replace kQ1 : w2.cell? ⟨w.heap.size + 1, 1, none⟩ = some (Value.slice b (Num.limbs y).length cb) := by rw [hw2]; exact kQ1
  replace fQ1 : w2.frozen? ⟨w.heap.size + 1, 1, none⟩ = false := by rw [hw2]; exact fQ1
  replace kR0 : w2.cell? ⟨w.heap.size + 1 + 1, 0, none⟩ = some (Value.bool false) := by rw [hw2]; exact kR0
  replace fR0 : w2.frozen? ⟨w.heap.size + 1 + 1, 0, none⟩ = false := by rw [hw2]; exact fR0
  replace kR1 : w2.cell? ⟨w.heap.size + 1 + 1, 1, none⟩ = some (Value.slice none 0 0) := by rw [hw2]; exact kR1
  replace fR1 : w2.frozen? ⟨w.heap.size + 1 + 1, 1, none⟩ = false := by rw [hw2]; exact fR1
  replace HZ : Hid (Below w.heap.size w w2) := hide (by rw [hw2]; exact below_drewN HZ.out d)
  replace q1 : w.heap.size + 3 ≤ w2.heap.size := by rw [hw2]; exact q1
  clear hw2
  by_cases hxy : x < y
  · rw [cmp_lt (by omega)]
    have hXY : x ≤ y := by omega
    have hlen : (Num.limbs x).length ≤ (Num.limbs y).length := Num.limbs_len.2 (Nat.lt_of_le_of_lt hXY (Num.limbs_len.1 (Nat.le_refl _)))
    go_wp2_with (first
      | (at_make; refine wpList_make_full _ rfl _ _ 52 rfl w2.heap.size 92 i0 (.int .u32 0) 1 Try.underlying52 hi hz0 hz1 _ _ _ _ ((Num.limbs y).length + 1) rfl rfl (by push_cast; rfl) (by push_cast; rfl) (by rw [hz2]; omega) (by unfold maxLen; omega) (by simp) ?_; intro w3 hown hgrow; simp only [World.size_setCell] at hown; replace kP0 : w3.cell? ⟨w.heap.size, 0, none⟩ = some (Value.bool n2) := hgrow.cell (by go_simp) (by simp); replace fP0 : w3.frozen? ⟨w.heap.size, 0, none⟩ = false := (grown_frozen hgrow (by simp only [World.size_setCell]; omega) (by simp)).trans (by go_simp); replace kP1 : w3.cell? ⟨w.heap.size, 1, none⟩ = some (Value.slice b (Num.limbs y).length cb) := hgrow.cell (by go_simp) (by simp); replace fP1 : w3.frozen? ⟨w.heap.size, 1, none⟩ = false := (grown_frozen hgrow (by simp only [World.size_setCell]; omega) (by simp)).trans (by go_simp); replace kQ0 : w3.cell? ⟨w.heap.size + 1, 0, none⟩ = some (Value.bool n1) := hgrow.cell (by go_simp) (by simp); replace fQ0 : w3.frozen? ⟨w.heap.size + 1, 0, none⟩ = false := (grown_frozen hgrow (by simp only [World.size_setCell]; omega) (by simp)).trans (by go_simp); replace kQ1 : w3.cell? ⟨w.heap.size + 1, 1, none⟩ = some (Value.slice a (Num.limbs x).length ca) := hgrow.cell (by go_simp) (by simp); replace fQ1 : w3.frozen? ⟨w.heap.size + 1, 1, none⟩ = false := (grown_frozen hgrow (by simp only [World.size_setCell]; omega) (by simp)).trans (by go_simp); replace kR0 : w3.cell? ⟨w.heap.size + 1 + 1, 0, none⟩ = some (Value.bool false) := hgrow.cell (by go_simp) (by simp); replace fR0 : w3.frozen? ⟨w.heap.size + 1 + 1, 0, none⟩ = false := (grown_frozen hgrow (by simp only [World.size_setCell]; omega) (by simp)).trans (by go_simp); replace kR1 : w3.cell? ⟨w.heap.size + 1 + 1, 1, none⟩ = some (Value.slice none 0 0) := hgrow.cell (by go_simp) (by simp); replace fR1 : w3.frozen? ⟨w.heap.size + 1 + 1, 1, none⟩ = false := (grown_frozen hgrow (by simp only [World.size_setCell]; omega) (by simp)).trans (by go_simp); have HZ3 := hide ((((((HZ.out.setCell (p := ⟨w.heap.size, 0, none⟩) (Nat.le_refl _) _).setCell (p := ⟨w.heap.size, 1, none⟩) (Nat.le_refl _) _).setCell (p := ⟨w.heap.size + 1, 0, none⟩) (by dsimp only; omega) _).setCell (p := ⟨w.heap.size + 1, 1, none⟩) (by dsimp only; omega) _)).grown hgrow (by simp only [World.size_setCell]; omega) (by simp)); have B3 := hide (own_made2 hown).blk; have q3 := B3.out.lt; clear hown hgrow)
      | (refine wpList_copy_lim rfl _ _ 52 52 rfl Try.underlying52 Try.size92 w2.heap.size ((Num.limbs y).length + 1) ((Num.limbs y).length + 1) b (Num.limbs y).length cb rfl rfl _ _ B3.out (by simp) (HBB.out.below HZ3.out) (by omega) ?_; intro w4 hB4 hg4; replace kP0 : w4.cell? ⟨w.heap.size, 0, none⟩ = some (Value.bool n2) := hg4.cell kP0 (by simp; omega); replace fP0 : w4.frozen? ⟨w.heap.size, 0, none⟩ = false := (grown_frozen hg4 (by dsimp only; omega) (by simp; omega)).trans fP0; replace kP1 : w4.cell? ⟨w.heap.size, 1, none⟩ = some (Value.slice b (Num.limbs y).length cb) := hg4.cell kP1 (by simp; omega); replace fP1 : w4.frozen? ⟨w.heap.size, 1, none⟩ = false := (grown_frozen hg4 (by dsimp only; omega) (by simp; omega)).trans fP1; replace kQ0 : w4.cell? ⟨w.heap.size + 1, 0, none⟩ = some (Value.bool n1) := hg4.cell kQ0 (by simp; omega); replace fQ0 : w4.frozen? ⟨w.heap.size + 1, 0, none⟩ = false := (grown_frozen hg4 (by dsimp only; omega) (by simp; omega)).trans fQ0; replace kQ1 : w4.cell? ⟨w.heap.size + 1, 1, none⟩ = some (Value.slice a (Num.limbs x).length ca) := hg4.cell kQ1 (by simp; omega); replace fQ1 : w4.frozen? ⟨w.heap.size + 1, 1, none⟩ = false := (grown_frozen hg4 (by dsimp only; omega) (by simp; omega)).trans fQ1; replace kR0 : w4.cell? ⟨w.heap.size + 1 + 1, 0, none⟩ = some (Value.bool false) := hg4.cell kR0 (by simp; omega); replace fR0 : w4.frozen? ⟨w.heap.size + 1 + 1, 0, none⟩ = false := (grown_frozen hg4 (by dsimp only; omega) (by simp; omega)).trans fR0; replace kR1 : w4.cell? ⟨w.heap.size + 1 + 1, 1, none⟩ = some (Value.slice none 0 0) := hg4.cell kR1 (by simp; omega); replace fR1 : w4.frozen? ⟨w.heap.size + 1 + 1, 1, none⟩ = false := (grown_frozen hg4 (by dsimp only; omega) (by simp; omega)).trans fR1; have HZ4 := hide (HZ3.out.grown hg4 HZ3.out.size (fun k e => by cases e; omega)); have B4 := hide hB4; clear hB4 hg4))
    refine (addI (!n2 == n1) w2.heap.size 0 ((Num.limbs y).length + 1) ((Num.limbs y).length + 1) _ a (Num.limbs x).length ca (Num.limbs x) _ B4.out (by simp) (Nat.le_refl _) (by omega) (HA.out.below HZ4.out) (fun hp gb ob s e => by have := seg_low HA.out hp e; omega)).mono ?_
    rintro e w5 ⟨zs, c, hS, he, hB5, hg5⟩
    obtain ⟨r5, rfl⟩ : ∃ r : Int, e = .returned (.int .u32 r) := ⟨_, he⟩
    clear he
    have q4 := B4.out.lt
    replace kP0 : w5.cell? ⟨w.heap.size, 0, none⟩ = some (Value.bool n2) := hg5.cell kP0 (by simp; omega)
    replace fP0 : w5.frozen? ⟨w.heap.size, 0, none⟩ = false := (grown_frozen hg5 (by dsimp only; omega) (by simp; omega)).trans fP0
    replace kP1 : w5.cell? ⟨w.heap.size, 1, none⟩ = some (Value.slice b (Num.limbs y).length cb) := hg5.cell kP1 (by simp; omega)
    replace fP1 : w5.frozen? ⟨w.heap.size, 1, none⟩ = false := (grown_frozen hg5 (by dsimp only; omega) (by simp; omega)).trans fP1
    replace kQ0 : w5.cell? ⟨w.heap.size + 1, 0, none⟩ = some (Value.bool n1) := hg5.cell kQ0 (by simp; omega)
    replace fQ0 : w5.frozen? ⟨w.heap.size + 1, 0, none⟩ = false := (grown_frozen hg5 (by dsimp only; omega) (by simp; omega)).trans fQ0
    replace kQ1 : w5.cell? ⟨w.heap.size + 1, 1, none⟩ = some (Value.slice a (Num.limbs x).length ca) := hg5.cell kQ1 (by simp; omega)
    replace fQ1 : w5.frozen? ⟨w.heap.size + 1, 1, none⟩ = false := (grown_frozen hg5 (by dsimp only; omega) (by simp; omega)).trans fQ1
    replace kR0 : w5.cell? ⟨w.heap.size + 1 + 1, 0, none⟩ = some (Value.bool false) := hg5.cell kR0 (by simp; omega)
    replace fR0 : w5.frozen? ⟨w.heap.size + 1 + 1, 0, none⟩ = false := (grown_frozen hg5 (by dsimp only; omega) (by simp; omega)).trans fR0
    replace kR1 : w5.cell? ⟨w.heap.size + 1 + 1, 1, none⟩ = some (Value.slice none 0 0) := hg5.cell kR1 (by simp; omega)
    replace fR1 : w5.frozen? ⟨w.heap.size + 1 + 1, 1, none⟩ = false := (grown_frozen hg5 (by dsimp only; omega) (by simp; omega)).trans fR1
    have HZ5 := hide (HZ4.out.grown hg5 HZ4.out.size (fun k e => by cases e; omega))
    have hzl := hS.1
    have HV := hide (sum_val hS hXY)
    have HO5 := hide (sum_own (base := w2.heap.size) hB5 hzl rfl (Nat.le_refl _) (by omega))
    have q5 := hB5.lt
    clear hB5 hg5 hS B3 B4 HZ3 HZ4 q3 q4
    go_wp2_with fail
    refine (bigOfI n2 _ _ _ zs w2.heap.size _ HO5.out (by omega)).mono ?_
    rintro e w6 ⟨v6, rfl, hn6, hb6⟩
    replace kR0 := (hb6.cell (p := ⟨w.heap.size + 1 + 1, 0, none⟩) (by dsimp only; omega)).trans kR0
    replace fR0 := (hb6.frozen (p := ⟨w.heap.size + 1 + 1, 0, none⟩) (by dsimp only; omega)).trans fR0
    replace kR1 := (hb6.cell (p := ⟨w.heap.size + 1 + 1, 1, none⟩) (by dsimp only; omega)).trans kR1
    replace fR1 := (hb6.frozen (p := ⟨w.heap.size + 1 + 1, 1, none⟩) (by dsimp only; omega)).trans fR1
    rw [HV.out, sum_sign2 n1 n2 x y hXY] at hn6
    have HF := hide (fun x y => fin_box (N := w.heap.size + 1 + 1) (x := x) (y := y) hn6 (by omega) (by omega) (bl_trans HZ5.out hb6))
    obtain ⟨a6, c6, rfl, ho6⟩ := hn6
    clear hb6 ho6 HO5 kP0 kP1 kQ0 kQ1 fP0 fP1 fQ0 fQ1
    go_wp2
    refine bodyPost_ret (v := .agg #[.bool (sgn (mk n1 x + mk n2 y)), .slice a6 (lms (mk n1 x + mk n2 y)).length c6]) (by simp [results, Try.results97, go_sem, *]) rfl ?_
    exact ⟨_, rfl, HF.out _ _⟩
  · have hc : (cmpZ (x : Int) y < 0) = False := by
      refine eq_false ?_
      by_cases h : x = y
      · rw [cmp_eq (by omega)]; decide
      · rw [cmp_gt (by omega)]; decide
    have hc' : ¬ cmpZ (x : Int) y < 0 := by rw [hc]; exact id
    clear hc
    generalize cmpZ (x : Int) y = r at *
    have hXY : y ≤ x := by omega
    have hlen : (Num.limbs y).length ≤ (Num.limbs x).length := Num.limbs_len.2 (Nat.lt_of_le_of_lt hXY (Num.limbs_len.1 (Nat.le_refl _)))
    go_wp2_with (first
      | (at_make; refine wpList_make_full _ rfl _ _ 52 rfl w2.heap.size 92 i0 (.int .u32 0) 1 Try.underlying52 hi hz0 hz1 _ _ _ _ ((Num.limbs x).length + 1) rfl rfl (by push_cast; rfl) (by push_cast; rfl) (by rw [hz2]; omega) (by unfold maxLen; omega) (by simp) ?_; intro w3 hown hgrow; skip; replace kP0 : w3.cell? ⟨w.heap.size, 0, none⟩ = some (Value.bool n1) := hgrow.cell kP0 (by simp); replace fP0 : w3.frozen? ⟨w.heap.size, 0, none⟩ = false := (grown_frozen hgrow (by dsimp only; omega) (by simp)).trans fP0; replace kP1 : w3.cell? ⟨w.heap.size, 1, none⟩ = some (Value.slice a (Num.limbs x).length ca) := hgrow.cell kP1 (by simp); replace fP1 : w3.frozen? ⟨w.heap.size, 1, none⟩ = false := (grown_frozen hgrow (by dsimp only; omega) (by simp)).trans fP1; replace kQ0 : w3.cell? ⟨w.heap.size + 1, 0, none⟩ = some (Value.bool n2) := hgrow.cell kQ0 (by simp); replace fQ0 : w3.frozen? ⟨w.heap.size + 1, 0, none⟩ = false := (grown_frozen hgrow (by dsimp only; omega) (by simp)).trans fQ0; replace kQ1 : w3.cell? ⟨w.heap.size + 1, 1, none⟩ = some (Value.slice b (Num.limbs y).length cb) := hgrow.cell kQ1 (by simp); replace fQ1 : w3.frozen? ⟨w.heap.size + 1, 1, none⟩ = false := (grown_frozen hgrow (by dsimp only; omega) (by simp)).trans fQ1; replace kR0 : w3.cell? ⟨w.heap.size + 1 + 1, 0, none⟩ = some (Value.bool false) := hgrow.cell kR0 (by simp); replace fR0 : w3.frozen? ⟨w.heap.size + 1 + 1, 0, none⟩ = false := (grown_frozen hgrow (by dsimp only; omega) (by simp)).trans fR0; replace kR1 : w3.cell? ⟨w.heap.size + 1 + 1, 1, none⟩ = some (Value.slice none 0 0) := hgrow.cell kR1 (by simp); replace fR1 : w3.frozen? ⟨w.heap.size + 1 + 1, 1, none⟩ = false := (grown_frozen hgrow (by dsimp only; omega) (by simp)).trans fR1; have HZ3 := hide (HZ.out.grown hgrow (by omega) (by simp)); have B3 := hide (own_made2 hown).blk; have q3 := B3.out.lt; clear hown hgrow)
      | (refine wpList_copy_lim rfl _ _ 52 52 rfl Try.underlying52 Try.size92 w2.heap.size ((Num.limbs x).length + 1) ((Num.limbs x).length + 1) a (Num.limbs x).length ca rfl rfl _ _ B3.out (by simp) (HA.out.below HZ3.out) (by omega) ?_; intro w4 hB4 hg4; replace kP0 : w4.cell? ⟨w.heap.size, 0, none⟩ = some (Value.bool n1) := hg4.cell kP0 (by simp; omega); replace fP0 : w4.frozen? ⟨w.heap.size, 0, none⟩ = false := (grown_frozen hg4 (by dsimp only; omega) (by simp; omega)).trans fP0; replace kP1 : w4.cell? ⟨w.heap.size, 1, none⟩ = some (Value.slice a (Num.limbs x).length ca) := hg4.cell kP1 (by simp; omega); replace fP1 : w4.frozen? ⟨w.heap.size, 1, none⟩ = false := (grown_frozen hg4 (by dsimp only; omega) (by simp; omega)).trans fP1; replace kQ0 : w4.cell? ⟨w.heap.size + 1, 0, none⟩ = some (Value.bool n2) := hg4.cell kQ0 (by simp; omega); replace fQ0 : w4.frozen? ⟨w.heap.size + 1, 0, none⟩ = false := (grown_frozen hg4 (by dsimp only; omega) (by simp; omega)).trans fQ0; replace kQ1 : w4.cell? ⟨w.heap.size + 1, 1, none⟩ = some (Value.slice b (Num.limbs y).length cb) := hg4.cell kQ1 (by simp; omega); replace fQ1 : w4.frozen? ⟨w.heap.size + 1, 1, none⟩ = false := (grown_frozen hg4 (by dsimp only; omega) (by simp; omega)).trans fQ1; replace kR0 : w4.cell? ⟨w.heap.size + 1 + 1, 0, none⟩ = some (Value.bool false) := hg4.cell kR0 (by simp; omega); replace fR0 : w4.frozen? ⟨w.heap.size + 1 + 1, 0, none⟩ = false := (grown_frozen hg4 (by dsimp only; omega) (by simp; omega)).trans fR0; replace kR1 : w4.cell? ⟨w.heap.size + 1 + 1, 1, none⟩ = some (Value.slice none 0 0) := hg4.cell kR1 (by simp; omega); replace fR1 : w4.frozen? ⟨w.heap.size + 1 + 1, 1, none⟩ = false := (grown_frozen hg4 (by dsimp only; omega) (by simp; omega)).trans fR1; have HZ4 := hide (HZ3.out.grown hg4 HZ3.out.size (fun k e => by cases e; omega)); have B4 := hide hB4; clear hB4 hg4))
    refine (addI (!n1 == n2) w2.heap.size 0 ((Num.limbs x).length + 1) ((Num.limbs x).length + 1) _ b (Num.limbs y).length cb (Num.limbs y) _ B4.out (by simp) (Nat.le_refl _) (by omega) (HBB.out.below HZ4.out) (fun hp gb ob s e => by have := seg_low HBB.out hp e; omega)).mono ?_
    rintro e w5 ⟨zs, c, hS, he, hB5, hg5⟩
    obtain ⟨r5, rfl⟩ : ∃ r : Int, e = .returned (.int .u32 r) := ⟨_, he⟩
    clear he
    have q4 := B4.out.lt
    replace kP0 : w5.cell? ⟨w.heap.size, 0, none⟩ = some (Value.bool n1) := hg5.cell kP0 (by simp; omega)
    replace fP0 : w5.frozen? ⟨w.heap.size, 0, none⟩ = false := (grown_frozen hg5 (by dsimp only; omega) (by simp; omega)).trans fP0
    replace kP1 : w5.cell? ⟨w.heap.size, 1, none⟩ = some (Value.slice a (Num.limbs x).length ca) := hg5.cell kP1 (by simp; omega)
    replace fP1 : w5.frozen? ⟨w.heap.size, 1, none⟩ = false := (grown_frozen hg5 (by dsimp only; omega) (by simp; omega)).trans fP1
    replace kQ0 : w5.cell? ⟨w.heap.size + 1, 0, none⟩ = some (Value.bool n2) := hg5.cell kQ0 (by simp; omega)
    replace fQ0 : w5.frozen? ⟨w.heap.size + 1, 0, none⟩ = false := (grown_frozen hg5 (by dsimp only; omega) (by simp; omega)).trans fQ0
    replace kQ1 : w5.cell? ⟨w.heap.size + 1, 1, none⟩ = some (Value.slice b (Num.limbs y).length cb) := hg5.cell kQ1 (by simp; omega)
    replace fQ1 : w5.frozen? ⟨w.heap.size + 1, 1, none⟩ = false := (grown_frozen hg5 (by dsimp only; omega) (by simp; omega)).trans fQ1
    replace kR0 : w5.cell? ⟨w.heap.size + 1 + 1, 0, none⟩ = some (Value.bool false) := hg5.cell kR0 (by simp; omega)
    replace fR0 : w5.frozen? ⟨w.heap.size + 1 + 1, 0, none⟩ = false := (grown_frozen hg5 (by dsimp only; omega) (by simp; omega)).trans fR0
    replace kR1 : w5.cell? ⟨w.heap.size + 1 + 1, 1, none⟩ = some (Value.slice none 0 0) := hg5.cell kR1 (by simp; omega)
    replace fR1 : w5.frozen? ⟨w.heap.size + 1 + 1, 1, none⟩ = false := (grown_frozen hg5 (by dsimp only; omega) (by simp; omega)).trans fR1
    have HZ5 := hide (HZ4.out.grown hg5 HZ4.out.size (fun k e => by cases e; omega))
    have hzl := hS.1
    have HV := hide (sum_val hS hXY)
    have HO5 := hide (sum_own (base := w2.heap.size) hB5 hzl rfl (Nat.le_refl _) (by omega))
    have q5 := hB5.lt
    clear hB5 hg5 hS B3 B4 HZ3 HZ4 q3 q4
    go_wp2_with fail
    refine (bigOfI n1 _ _ _ zs w2.heap.size _ HO5.out (by omega)).mono ?_
    rintro e w6 ⟨v6, rfl, hn6, hb6⟩
    replace kR0 := (hb6.cell (p := ⟨w.heap.size + 1 + 1, 0, none⟩) (by dsimp only; omega)).trans kR0
    replace fR0 := (hb6.frozen (p := ⟨w.heap.size + 1 + 1, 0, none⟩) (by dsimp only; omega)).trans fR0
    replace kR1 := (hb6.cell (p := ⟨w.heap.size + 1 + 1, 1, none⟩) (by dsimp only; omega)).trans kR1
    replace fR1 := (hb6.frozen (p := ⟨w.heap.size + 1 + 1, 1, none⟩) (by dsimp only; omega)).trans fR1
    rw [HV.out, sum_sign n1 n2 x y hXY] at hn6
    have HF := hide (fun x y => fin_box (N := w.heap.size + 1 + 1) (x := x) (y := y) hn6 (by omega) (by omega) (bl_trans HZ5.out hb6))
    obtain ⟨a6, c6, rfl, ho6⟩ := hn6
    clear hb6 ho6 HO5 kP0 kP1 kQ0 kQ1 fP0 fP1 fQ0 fQ1
    go_wp2
    refine bodyPost_ret (v := .agg #[.bool (sgn (mk n1 x + mk n2 y)), .slice a6 (lms (mk n1 x + mk n2 y)).length c6]) (by simp [results, Try.results97, go_sem, *]) rfl ?_
    exact ⟨_, rfl, HF.out _ _⟩
end Go.Proofs.Yteljkjpcjjiidaa
