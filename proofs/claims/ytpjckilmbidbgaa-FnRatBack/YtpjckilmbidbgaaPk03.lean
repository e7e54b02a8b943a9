/- My texts Sum, Field, DrB, DrS, DrX, in this order. -/
import Derived.Test.YtpjckilmbidbgaaPk02
import Derived.Laws.CopyOwn
import Derived.Test.YtpjckilmbidbgaaPk01
import Derived.Deep.CutBlock
import Derived.Deep.RegionHeld3
import Derived.Lib.Builder
/- The walks of bigSum and bigDifference: the sum of two numbers of any size, in new memory. -/
namespace Go.Proofs.Ytpjckilmbidbgaa
open Go.RowKit
set_option linter.unusedVariables false

theorem lims_at {xs : List Nat} {j : Nat} {u : Value} (h : (xs.map lim)[j]? = some u) : ∃ hj : j < xs.length, u = .int .u32 xs[j] := by
  have hj : j < xs.length := by have := (List.getElem?_eq_some_iff.1 h).1; simpa using this
  exact ⟨hj, by have := (List.getElem?_eq_some_iff.1 h).2; simp [lim] at this; exact this.symm⟩
theorem seg_low {W : World} {b : Option Addr} {m cb : Nat} {ps : List Nat} (h : Seg W b m cb ps) (hm : 0 < m) {gb ob : Nat} {s : Option Nat} (e : b = some ⟨gb, ob, s⟩) : gb < W.heap.size := by
  rcases h.2.2.2.2 with h0 | ⟨g, o, ha, hg, _⟩
  · omega
  · rw [ha] at e; cases e; exact hg
theorem sum_val0 {t : Bool} {X Y nz c B D : Nat} (hX : X < B) (hBD : 2 * B ≤ D) (hXY : Y ≤ X) (hz : nz < D) (h3 : c = 0 ∨ c = 1) (h4 : if t = true then nz + Y + D * c = X + D else nz + D * c = X + Y) : nz = if t = true then X - Y else X + Y := by
  cases t with
  | false =>
    rw [if_neg (by simp)] at h4 ⊢
    rcases h3 with rfl | rfl
    · rw [Nat.mul_zero] at h4; omega
    · rw [Nat.mul_one] at h4; omega
  | true =>
    rw [if_pos rfl] at h4 ⊢
    rcases h3 with rfl | rfl
    · rw [Nat.mul_zero] at h4; omega
    · rw [Nat.mul_one] at h4; omega
theorem pw_two (n : Nat) : 2 * 4294967296 ^ n ≤ 4294967296 ^ (n + 1) := by
  rw [Nat.pow_succ, Nat.mul_comm]; exact Nat.mul_le_mul_left _ (by decide)
theorem zero_or_one {c : Nat} (h : c ≤ 1) : c = 0 ∨ c = 1 := by omega
theorem nat_snoc0 (xs : List Nat) : Num.nat (xs ++ [0]) = Num.nat xs := by
  rw [Num.nat_append, show Num.nat [0] = 0 from rfl, Nat.mul_zero, Nat.add_zero]
theorem rep_drop (n : Nat) : (List.replicate (n + 1) 0).drop n = [0] := by
  rw [List.drop_replicate, Nat.add_sub_cancel_left]; rfl
theorem sum_val {t : Bool} {X Y : Nat} {zs : List Nat} {c : Nat} (h : Sofar t (((Num.limbs X ++ (List.replicate ((Num.limbs X).length + 1) 0).drop (Num.limbs X).length).drop 0).take ((Num.limbs X).length + 1)) (Num.limbs Y) zs ((Num.limbs X).length + 1) c) (hXY : Y ≤ X) :
    Num.nat zs = if t = true then X - Y else X + Y := by
  obtain ⟨h1, h2, h3, h4⟩ := h
  have hX : X < 4294967296 ^ (Num.limbs X).length := Num.limbs_len.1 (Nat.le_refl _)
  have hYl : (Num.limbs Y).length ≤ (Num.limbs X).length := Num.limbs_len.2 (Nat.lt_of_le_of_lt hXY hX)
  have hz := Num.nat_lt h2
  rw [h1] at hz
  have e1 : (Num.limbs X ++ [0]).take ((Num.limbs X).length + 1) = Num.limbs X ++ [0] := List.take_of_length_le (by rw [List.length_append]; exact Nat.le_refl _)
  rw [rep_drop, List.drop_zero, e1, e1, List.take_of_length_le (Nat.le_succ_of_le hYl), nat_snoc0, Num.nat_limbs, Num.nat_limbs] at h4
  exact sum_val0 hX (pw_two _) hXY hz (zero_or_one h3) h4
theorem sum_own {W : World} {g n base : Nat} {X zs : List Nat} (hB : Blk W g ((X ++ (List.replicate (X.length + 1) 0).drop X.length).take 0 ++ zs ++ (X ++ (List.replicate (X.length + 1) 0).drop X.length).drop (0 + n))) (hz : zs.length = n) (hn : n = X.length + 1) (hb : base ≤ g) (hm : n ≤ 9223372036854775807) : Own W base (some ⟨g, 0, none⟩) n n zs := by
  have e : (X ++ (List.replicate (X.length + 1) 0).drop X.length).take 0 ++ zs ++ (X ++ (List.replicate (X.length + 1) 0).drop X.length).drop (0 + n) = zs := by
    rw [rep_drop, List.drop_eq_nil_of_le (by simp; omega)]; simp
  rw [e] at hB
  subst hz
  exact hB.own hb hm
theorem sum_sign (n1 n2 : Bool) (x y : Nat) (h : y ≤ x) : mk n1 (if (!n1 == n2) = true then x - y else x + y) = mk n1 x + mk n2 y := by
  cases n1 <;> cases n2 <;> simp [mk] <;> omega
theorem sum_sign2 (n1 n2 : Bool) (x y : Nat) (h : x ≤ y) : mk n2 (if (!n2 == n1) = true then y - x else y + x) = mk n1 x + mk n2 y := by
  cases n1 <;> cases n2 <;> simp [mk] <;> omega
theorem own_made2 {W : World} {base : Nat} {a : Option Addr} {n : Nat} (h : W.ownsRow base 51 1 (.slice a n n) n (madeCells (Value.int IntKind.u32 0).cells (n * 1)).toList) : Own W base a n n (List.replicate n 0) := by
  rw [Nat.mul_one] at h; exact own_made h
theorem Try.size51 : (Try.prog.info? 51).map (·.size) = some 1 := by kernel_rfl
/-- a copy of limbs into the head of a block -/
theorem wpList_copy_lim {P : Program} {w : World} {ops : Array Oper} {rest : List Oper} {o : Oper} {a : Act} {Q : Exit → Act → World → Prop} (hgd : o.guard = none) (d s : Operand) (dT sT : TypeId)
    (ho : o.op = .call { callee := .builtin .copy, args := #[d, s], argTypes := #[dT, sT] }) (hu : P.underlying dT = some (.slice 51)) (hsz : (P.info? 51).map (·.size) = some 1)
    (g dLen dCap : Nat) (b : Option Addr) (n cb : Nat) (hd : a.eval d = .slice (some ⟨g, 0, none⟩) dLen dCap) (hs : a.eval s = .slice b n cb)
    (ys xs : List Nat) (hB : Blk w g ys) (hl : ys.length = dLen) (hS : Seg w b n cb xs) (hn : n ≤ dLen)
    (h : ∀ w', Blk w' g (xs ++ ys.drop n) → w.grownBy w' (some g) → wpList P ops Q rest (a.put o.dst (goInt n)) w') : wpList P ops Q (o :: rest) a w := by
  have hx := hS.1
  rcases hS.2.2.2.2 with h0 | ⟨g', o', rfl, hg', hc⟩
  · subst h0
    refine wpList_copy_nothing hgd d s dT sT ho 51 hu hsz _ _ _ _ _ _ hd hs (by simp) (h w ?_ ⟨rfl, rfl, rfl, Nat.le_refl _, fun _ _ _ => rfl⟩)
    have : xs = [] := List.eq_nil_of_length_eq_zero hx
    subst this
    simpa using hB
  · have e : ((ys.map lim).toArray.toList.take 0 ++ (xs.map lim ++ (ys.map lim).toArray.toList.drop (0 + (xs.map lim).length))).toArray = ((xs ++ ys.drop n).map lim).toArray := by
      simp [hx]
    have hk : Blk (w.setRow g ((xs ++ ys.drop n).map lim).toArray) g (xs ++ ys.drop n) := ⟨setRow_heap w g _ _ 51 (0, 0) hB.1, Num.small_append hS.2.2.2.1 (Num.small_drop hB.2 n)⟩
    have hgr : w.grownBy (w.setRow g ((xs ++ ys.drop n).map lim).toArray) (some g) := ⟨rfl, rfl, rfl, by simp [World.setRow], fun k hk hne => setRow_other w g k _ (fun e => hne (by rw [e]))⟩
    have hfin := h _ hk hgr
    have hmin : (xs.map lim).length = Nat.min n dLen := by rw [List.length_map, hx]; exact (Nat.min_eq_left hn).symm
    refine wpList_copy_own hgd d s dT sT ho 51 hu hsz g 0 dLen dCap ⟨g', o', none⟩ n cb hd hs _ 51 hB.1 (xs.map lim) hmin ?_ ?_ (one_lims xs) ?_
    · intro j v hv
      obtain ⟨hj, rfl⟩ := lims_at hv
      rw [Addr.add_lit]; exact hc j hj
    · simp; omega
    · rw [e, List.length_map, hx]; exact hfin

set_option maxHeartbeats 4000000 in
set_option maxRecDepth 20000 in
theorem sumI (v1 v2 : Value) (n1 n2 : Bool) (x y : Nat) (w : World) (h1 : Raw w v1 n1 (Num.limbs x)) (h2 : Raw w v2 n2 (Num.limbs y)) (l1 : (Num.limbs x).length ≤ 1048576) (l2 : (Num.limbs y).length ≤ 1048576) :
    Calls Try.prog 51 #[v1, v2] w fun e w' => ∃ v, e = .returned v ∧ New w' w.heap.size v (mk n1 x + mk n2 y) ∧ Below w.heap.size w w' := by
  obtain ⟨i0, hi, hz0, hz1, hz2⟩ := info_parts Try.info51
  obtain ⟨a, ca, rfl, ha⟩ := h1
  obtain ⟨b, cb, rfl, hb⟩ := h2
  have HA := hide ha
  have HBB := hide hb
  clear ha hb
  have HZ := hide (bl_alloc (bl_alloc (bl_alloc (bl_refl w) (Obj.cells #[Value.bool n1, Value.slice a (Num.limbs x).length ca] 26)) (Obj.cells #[Value.bool n2, Value.slice b (Num.limbs y).length cb] 26)) (Obj.cells #[Value.bool false, Value.slice none 0 0] 26))
  have kP0 : (((w.alloc (Obj.cells #[Value.bool n1, Value.slice a (Num.limbs x).length ca] 26)).alloc (Obj.cells #[Value.bool n2, Value.slice b (Num.limbs y).length cb] 26)).alloc (Obj.cells #[Value.bool false, Value.slice none 0 0] 26)).cell? ⟨w.heap.size, 0, none⟩ = some (Value.bool n1) := by go_simp
  have fP0 : (((w.alloc (Obj.cells #[Value.bool n1, Value.slice a (Num.limbs x).length ca] 26)).alloc (Obj.cells #[Value.bool n2, Value.slice b (Num.limbs y).length cb] 26)).alloc (Obj.cells #[Value.bool false, Value.slice none 0 0] 26)).frozen? ⟨w.heap.size, 0, none⟩ = false := by go_simp
  have kP1 : (((w.alloc (Obj.cells #[Value.bool n1, Value.slice a (Num.limbs x).length ca] 26)).alloc (Obj.cells #[Value.bool n2, Value.slice b (Num.limbs y).length cb] 26)).alloc (Obj.cells #[Value.bool false, Value.slice none 0 0] 26)).cell? ⟨w.heap.size, 1, none⟩ = some (Value.slice a (Num.limbs x).length ca) := by go_simp
  have fP1 : (((w.alloc (Obj.cells #[Value.bool n1, Value.slice a (Num.limbs x).length ca] 26)).alloc (Obj.cells #[Value.bool n2, Value.slice b (Num.limbs y).length cb] 26)).alloc (Obj.cells #[Value.bool false, Value.slice none 0 0] 26)).frozen? ⟨w.heap.size, 1, none⟩ = false := by go_simp
  have kQ0 : (((w.alloc (Obj.cells #[Value.bool n1, Value.slice a (Num.limbs x).length ca] 26)).alloc (Obj.cells #[Value.bool n2, Value.slice b (Num.limbs y).length cb] 26)).alloc (Obj.cells #[Value.bool false, Value.slice none 0 0] 26)).cell? ⟨w.heap.size + 1, 0, none⟩ = some (Value.bool n2) := by go_simp
  have fQ0 : (((w.alloc (Obj.cells #[Value.bool n1, Value.slice a (Num.limbs x).length ca] 26)).alloc (Obj.cells #[Value.bool n2, Value.slice b (Num.limbs y).length cb] 26)).alloc (Obj.cells #[Value.bool false, Value.slice none 0 0] 26)).frozen? ⟨w.heap.size + 1, 0, none⟩ = false := by go_simp
  have kQ1 : (((w.alloc (Obj.cells #[Value.bool n1, Value.slice a (Num.limbs x).length ca] 26)).alloc (Obj.cells #[Value.bool n2, Value.slice b (Num.limbs y).length cb] 26)).alloc (Obj.cells #[Value.bool false, Value.slice none 0 0] 26)).cell? ⟨w.heap.size + 1, 1, none⟩ = some (Value.slice b (Num.limbs y).length cb) := by go_simp
  have fQ1 : (((w.alloc (Obj.cells #[Value.bool n1, Value.slice a (Num.limbs x).length ca] 26)).alloc (Obj.cells #[Value.bool n2, Value.slice b (Num.limbs y).length cb] 26)).alloc (Obj.cells #[Value.bool false, Value.slice none 0 0] 26)).frozen? ⟨w.heap.size + 1, 1, none⟩ = false := by go_simp
  have kR0 : (((w.alloc (Obj.cells #[Value.bool n1, Value.slice a (Num.limbs x).length ca] 26)).alloc (Obj.cells #[Value.bool n2, Value.slice b (Num.limbs y).length cb] 26)).alloc (Obj.cells #[Value.bool false, Value.slice none 0 0] 26)).cell? ⟨w.heap.size + 1 + 1, 0, none⟩ = some (Value.bool false) := by go_simp
  have fR0 : (((w.alloc (Obj.cells #[Value.bool n1, Value.slice a (Num.limbs x).length ca] 26)).alloc (Obj.cells #[Value.bool n2, Value.slice b (Num.limbs y).length cb] 26)).alloc (Obj.cells #[Value.bool false, Value.slice none 0 0] 26)).frozen? ⟨w.heap.size + 1 + 1, 0, none⟩ = false := by go_simp
  have kR1 : (((w.alloc (Obj.cells #[Value.bool n1, Value.slice a (Num.limbs x).length ca] 26)).alloc (Obj.cells #[Value.bool n2, Value.slice b (Num.limbs y).length cb] 26)).alloc (Obj.cells #[Value.bool false, Value.slice none 0 0] 26)).cell? ⟨w.heap.size + 1 + 1, 1, none⟩ = some (Value.slice none 0 0) := by go_simp
  have fR1 : (((w.alloc (Obj.cells #[Value.bool n1, Value.slice a (Num.limbs x).length ca] 26)).alloc (Obj.cells #[Value.bool n2, Value.slice b (Num.limbs y).length cb] 26)).alloc (Obj.cells #[Value.bool false, Value.slice none 0 0] 26)).frozen? ⟨w.heap.size + 1 + 1, 1, none⟩ = false := by go_simp
  have q1 : w.heap.size + 3 ≤ (((w.alloc (Obj.cells #[Value.bool n1, Value.slice a (Num.limbs x).length ca] 26)).alloc (Obj.cells #[Value.bool n2, Value.slice b (Num.limbs y).length cb] 26)).alloc (Obj.cells #[Value.bool false, Value.slice none 0 0] 26)).heap.size := by simp only [World.size_alloc]; omega
  go_enter Try.func51, Try.ntmps51
  go_wp2_with fail
  generalize (((w.alloc (Obj.cells #[Value.bool n1, Value.slice a (Num.limbs x).length ca] 26)).alloc (Obj.cells #[Value.bool n2, Value.slice b (Num.limbs y).length cb] 26)).alloc (Obj.cells #[Value.bool false, Value.slice none 0 0] 26)) = w1 at *
  refine (leastI x y a b _ _ ca cb _ (HA.out.below HZ.out) (HBB.out.below HZ.out)).mono ?_
  rintro e w2 ⟨rfl, d, hw2⟩
  replace kP0 : w2.cell? ⟨w.heap.size, 0, none⟩ = some (Value.bool n1) := by rw [hw2]; exact kP0
  replace fP0 : w2.frozen? ⟨w.heap.size, 0, none⟩ = false := by rw [hw2]; exact fP0
  replace kP1 : w2.cell? ⟨w.heap.size, 1, none⟩ = some (Value.slice a (Num.limbs x).length ca) := by rw [hw2]; exact kP1
  replace fP1 : w2.frozen? ⟨w.heap.size, 1, none⟩ = false := by rw [hw2]; exact fP1
  replace kQ0 : w2.cell? ⟨w.heap.size + 1, 0, none⟩ = some (Value.bool n2) := by rw [hw2]; exact kQ0
  replace fQ0 : w2.frozen? ⟨w.heap.size + 1, 0, none⟩ = false := by rw [hw2]; exact fQ0
  replace kQ1 : w2.cell? ⟨w.heap.size + 1, 1, none⟩ = some (Value.slice b (Num.limbs y).length cb) := by rw [hw2]; exact kQ1
  replace fQ1 : w2.frozen? ⟨w.heap.size + 1, 1, none⟩ = false := by rw [hw2]; exact fQ1
  replace kR0 : w2.cell? ⟨w.heap.size + 1 + 1, 0, none⟩ = some (Value.bool false) := by rw [hw2]; exact kR0
  replace fR0 : w2.frozen? ⟨w.heap.size + 1 + 1, 0, none⟩ = false := by rw [hw2]; exact fR0
  replace kR1 : w2.cell? ⟨w.heap.size + 1 + 1, 1, none⟩ = some (Value.slice none 0 0) := by rw [hw2]; exact kR1
  replace fR1 : w2.frozen? ⟨w.heap.size + 1 + 1, 1, none⟩ = false := by rw [hw2]; exact fR1
  replace HZ : Hid (Below w.heap.size w w2) := hide (by rw [hw2]; exact below_drewN HZ.out d)
  replace q1 : w.heap.size + 3 ≤ w2.heap.size := by rw [hw2]; exact q1
  clear hw2
  by_cases hxy : x < y
  · rw [cmp_lt (by omega)]
    have hXY : x ≤ y := by omega
    have hlen : (Num.limbs x).length ≤ (Num.limbs y).length := Num.limbs_len.2 (Nat.lt_of_le_of_lt hXY (Num.limbs_len.1 (Nat.le_refl _)))
    go_wp2_with (first
      | (at_make; refine wpList_make_full _ rfl _ _ 24 rfl w2.heap.size 51 i0 (.int .u32 0) 1 Try.underlying24 hi hz0 hz1 _ _ _ _ ((Num.limbs y).length + 1) rfl rfl (by push_cast; rfl) (by push_cast; rfl) (by rw [hz2]; omega) (by unfold maxLen; omega) (by simp) ?_; intro w3 hown hgrow; simp only [World.size_setCell] at hown; replace kP0 : w3.cell? ⟨w.heap.size, 0, none⟩ = some (Value.bool n2) := hgrow.cell (by go_simp) (by simp); replace fP0 : w3.frozen? ⟨w.heap.size, 0, none⟩ = false := (grown_frozen hgrow (by simp only [World.size_setCell]; omega) (by simp)).trans (by go_simp); replace kP1 : w3.cell? ⟨w.heap.size, 1, none⟩ = some (Value.slice b (Num.limbs y).length cb) := hgrow.cell (by go_simp) (by simp); replace fP1 : w3.frozen? ⟨w.heap.size, 1, none⟩ = false := (grown_frozen hgrow (by simp only [World.size_setCell]; omega) (by simp)).trans (by go_simp); replace kQ0 : w3.cell? ⟨w.heap.size + 1, 0, none⟩ = some (Value.bool n1) := hgrow.cell (by go_simp) (by simp); replace fQ0 : w3.frozen? ⟨w.heap.size + 1, 0, none⟩ = false := (grown_frozen hgrow (by simp only [World.size_setCell]; omega) (by simp)).trans (by go_simp); replace kQ1 : w3.cell? ⟨w.heap.size + 1, 1, none⟩ = some (Value.slice a (Num.limbs x).length ca) := hgrow.cell (by go_simp) (by simp); replace fQ1 : w3.frozen? ⟨w.heap.size + 1, 1, none⟩ = false := (grown_frozen hgrow (by simp only [World.size_setCell]; omega) (by simp)).trans (by go_simp); replace kR0 : w3.cell? ⟨w.heap.size + 1 + 1, 0, none⟩ = some (Value.bool false) := hgrow.cell (by go_simp) (by simp); replace fR0 : w3.frozen? ⟨w.heap.size + 1 + 1, 0, none⟩ = false := (grown_frozen hgrow (by simp only [World.size_setCell]; omega) (by simp)).trans (by go_simp); replace kR1 : w3.cell? ⟨w.heap.size + 1 + 1, 1, none⟩ = some (Value.slice none 0 0) := hgrow.cell (by go_simp) (by simp); replace fR1 : w3.frozen? ⟨w.heap.size + 1 + 1, 1, none⟩ = false := (grown_frozen hgrow (by simp only [World.size_setCell]; omega) (by simp)).trans (by go_simp); have HZ3 := hide ((((((HZ.out.setCell (p := ⟨w.heap.size, 0, none⟩) (Nat.le_refl _) _).setCell (p := ⟨w.heap.size, 1, none⟩) (Nat.le_refl _) _).setCell (p := ⟨w.heap.size + 1, 0, none⟩) (by dsimp only; omega) _).setCell (p := ⟨w.heap.size + 1, 1, none⟩) (by dsimp only; omega) _)).grown hgrow (by simp only [World.size_setCell]; omega) (by simp)); have B3 := hide (own_made2 hown).blk; have q3 := B3.out.lt; clear hown hgrow)
      | (refine wpList_copy_lim rfl _ _ 24 24 rfl Try.underlying24 Try.size51 w2.heap.size ((Num.limbs y).length + 1) ((Num.limbs y).length + 1) b (Num.limbs y).length cb rfl rfl _ _ B3.out (by simp) (HBB.out.below HZ3.out) (by omega) ?_; intro w4 hB4 hg4; replace kP0 : w4.cell? ⟨w.heap.size, 0, none⟩ = some (Value.bool n2) := hg4.cell kP0 (by simp; omega); replace fP0 : w4.frozen? ⟨w.heap.size, 0, none⟩ = false := (grown_frozen hg4 (by dsimp only; omega) (by simp; omega)).trans fP0; replace kP1 : w4.cell? ⟨w.heap.size, 1, none⟩ = some (Value.slice b (Num.limbs y).length cb) := hg4.cell kP1 (by simp; omega); replace fP1 : w4.frozen? ⟨w.heap.size, 1, none⟩ = false := (grown_frozen hg4 (by dsimp only; omega) (by simp; omega)).trans fP1; replace kQ0 : w4.cell? ⟨w.heap.size + 1, 0, none⟩ = some (Value.bool n1) := hg4.cell kQ0 (by simp; omega); replace fQ0 : w4.frozen? ⟨w.heap.size + 1, 0, none⟩ = false := (grown_frozen hg4 (by dsimp only; omega) (by simp; omega)).trans fQ0; replace kQ1 : w4.cell? ⟨w.heap.size + 1, 1, none⟩ = some (Value.slice a (Num.limbs x).length ca) := hg4.cell kQ1 (by simp; omega); replace fQ1 : w4.frozen? ⟨w.heap.size + 1, 1, none⟩ = false := (grown_frozen hg4 (by dsimp only; omega) (by simp; omega)).trans fQ1; replace kR0 : w4.cell? ⟨w.heap.size + 1 + 1, 0, none⟩ = some (Value.bool false) := hg4.cell kR0 (by simp; omega); replace fR0 : w4.frozen? ⟨w.heap.size + 1 + 1, 0, none⟩ = false := (grown_frozen hg4 (by dsimp only; omega) (by simp; omega)).trans fR0; replace kR1 : w4.cell? ⟨w.heap.size + 1 + 1, 1, none⟩ = some (Value.slice none 0 0) := hg4.cell kR1 (by simp; omega); replace fR1 : w4.frozen? ⟨w.heap.size + 1 + 1, 1, none⟩ = false := (grown_frozen hg4 (by dsimp only; omega) (by simp; omega)).trans fR1; have HZ4 := hide (HZ3.out.grown hg4 HZ3.out.size (fun k e => by cases e; omega)); have B4 := hide hB4; clear hB4 hg4))
    refine (addI (!n2 == n1) w2.heap.size 0 ((Num.limbs y).length + 1) ((Num.limbs y).length + 1) _ a (Num.limbs x).length ca (Num.limbs x) _ B4.out (by simp) (Nat.le_refl _) (by omega) (HA.out.below HZ4.out) (fun hp gb ob s e => by have := seg_low HA.out hp e; omega)).mono ?_
    rintro e w5 ⟨zs, c, hS, he, hB5, hg5⟩
    obtain ⟨r5, rfl⟩ : ∃ r : Int, e = .returned (.int .u32 r) := ⟨_, he⟩
    clear he
    have q4 := B4.out.lt
    replace kP0 : w5.cell? ⟨w.heap.size, 0, none⟩ = some (Value.bool n2) := hg5.cell kP0 (by simp; omega)
    replace fP0 : w5.frozen? ⟨w.heap.size, 0, none⟩ = false := (grown_frozen hg5 (by dsimp only; omega) (by simp; omega)).trans fP0
    replace kP1 : w5.cell? ⟨w.heap.size, 1, none⟩ = some (Value.slice b (Num.limbs y).length cb) := hg5.cell kP1 (by simp; omega)
    replace fP1 : w5.frozen? ⟨w.heap.size, 1, none⟩ = false := (grown_frozen hg5 (by dsimp only; omega) (by simp; omega)).trans fP1
    replace kQ0 : w5.cell? ⟨w.heap.size + 1, 0, none⟩ = some (Value.bool n1) := hg5.cell kQ0 (by simp; omega)
    replace fQ0 : w5.frozen? ⟨w.heap.size + 1, 0, none⟩ = false := (grown_frozen hg5 (by dsimp only; omega) (by simp; omega)).trans fQ0
    replace kQ1 : w5.cell? ⟨w.heap.size + 1, 1, none⟩ = some (Value.slice a (Num.limbs x).length ca) := hg5.cell kQ1 (by simp; omega)
    replace fQ1 : w5.frozen? ⟨w.heap.size + 1, 1, none⟩ = false := (grown_frozen hg5 (by dsimp only; omega) (by simp; omega)).trans fQ1
    replace kR0 : w5.cell? ⟨w.heap.size + 1 + 1, 0, none⟩ = some (Value.bool false) := hg5.cell kR0 (by simp; omega)
    replace fR0 : w5.frozen? ⟨w.heap.size + 1 + 1, 0, none⟩ = false := (grown_frozen hg5 (by dsimp only; omega) (by simp; omega)).trans fR0
    replace kR1 : w5.cell? ⟨w.heap.size + 1 + 1, 1, none⟩ = some (Value.slice none 0 0) := hg5.cell kR1 (by simp; omega)
    replace fR1 : w5.frozen? ⟨w.heap.size + 1 + 1, 1, none⟩ = false := (grown_frozen hg5 (by dsimp only; omega) (by simp; omega)).trans fR1
    have HZ5 := hide (HZ4.out.grown hg5 HZ4.out.size (fun k e => by cases e; omega))
    have hzl := hS.1
    have HV := hide (sum_val hS hXY)
    have HO5 := hide (sum_own (base := w2.heap.size) hB5 hzl rfl (Nat.le_refl _) (by omega))
    have q5 := hB5.lt
    clear hB5 hg5 hS B3 B4 HZ3 HZ4 q3 q4
    go_wp2_with fail
    refine (bigOfI n2 _ _ _ zs w2.heap.size _ HO5.out (by omega)).mono ?_
    rintro e w6 ⟨v6, rfl, hn6, hb6⟩
    replace kR0 := (hb6.cell (p := ⟨w.heap.size + 1 + 1, 0, none⟩) (by dsimp only; omega)).trans kR0
    replace fR0 := (hb6.frozen (p := ⟨w.heap.size + 1 + 1, 0, none⟩) (by dsimp only; omega)).trans fR0
    replace kR1 := (hb6.cell (p := ⟨w.heap.size + 1 + 1, 1, none⟩) (by dsimp only; omega)).trans kR1
    replace fR1 := (hb6.frozen (p := ⟨w.heap.size + 1 + 1, 1, none⟩) (by dsimp only; omega)).trans fR1
    rw [HV.out, sum_sign2 n1 n2 x y hXY] at hn6
    have HF := hide (fun x y => fin_box (N := w.heap.size + 1 + 1) (x := x) (y := y) hn6 (by omega) (by omega) (bl_trans HZ5.out hb6))
    obtain ⟨a6, c6, rfl, ho6⟩ := hn6
    clear hb6 ho6 HO5 kP0 kP1 kQ0 kQ1 fP0 fP1 fQ0 fQ1
    go_wp2
    refine bodyPost_ret (v := .agg #[.bool (sgn (mk n1 x + mk n2 y)), .slice a6 (lms (mk n1 x + mk n2 y)).length c6]) (by simp [results, Try.results51, go_sem, *]) rfl ?_
    exact ⟨_, rfl, HF.out _ _⟩
  · have hc : (cmpZ (x : Int) y < 0) = False := by
      refine eq_false ?_
      by_cases h : x = y
      · rw [cmp_eq (by omega)]; decide
      · rw [cmp_gt (by omega)]; decide
    have hc' : ¬ cmpZ (x : Int) y < 0 := by rw [hc]; exact id
    clear hc
    generalize cmpZ (x : Int) y = r at *
    have hXY : y ≤ x := by omega
    have hlen : (Num.limbs y).length ≤ (Num.limbs x).length := Num.limbs_len.2 (Nat.lt_of_le_of_lt hXY (Num.limbs_len.1 (Nat.le_refl _)))
    go_wp2_with (first
      | (at_make; refine wpList_make_full _ rfl _ _ 24 rfl w2.heap.size 51 i0 (.int .u32 0) 1 Try.underlying24 hi hz0 hz1 _ _ _ _ ((Num.limbs x).length + 1) rfl rfl (by push_cast; rfl) (by push_cast; rfl) (by rw [hz2]; omega) (by unfold maxLen; omega) (by simp) ?_; intro w3 hown hgrow; skip; replace kP0 : w3.cell? ⟨w.heap.size, 0, none⟩ = some (Value.bool n1) := hgrow.cell kP0 (by simp); replace fP0 : w3.frozen? ⟨w.heap.size, 0, none⟩ = false := (grown_frozen hgrow (by dsimp only; omega) (by simp)).trans fP0; replace kP1 : w3.cell? ⟨w.heap.size, 1, none⟩ = some (Value.slice a (Num.limbs x).length ca) := hgrow.cell kP1 (by simp); replace fP1 : w3.frozen? ⟨w.heap.size, 1, none⟩ = false := (grown_frozen hgrow (by dsimp only; omega) (by simp)).trans fP1; replace kQ0 : w3.cell? ⟨w.heap.size + 1, 0, none⟩ = some (Value.bool n2) := hgrow.cell kQ0 (by simp); replace fQ0 : w3.frozen? ⟨w.heap.size + 1, 0, none⟩ = false := (grown_frozen hgrow (by dsimp only; omega) (by simp)).trans fQ0; replace kQ1 : w3.cell? ⟨w.heap.size + 1, 1, none⟩ = some (Value.slice b (Num.limbs y).length cb) := hgrow.cell kQ1 (by simp); replace fQ1 : w3.frozen? ⟨w.heap.size + 1, 1, none⟩ = false := (grown_frozen hgrow (by dsimp only; omega) (by simp)).trans fQ1; replace kR0 : w3.cell? ⟨w.heap.size + 1 + 1, 0, none⟩ = some (Value.bool false) := hgrow.cell kR0 (by simp); replace fR0 : w3.frozen? ⟨w.heap.size + 1 + 1, 0, none⟩ = false := (grown_frozen hgrow (by dsimp only; omega) (by simp)).trans fR0; replace kR1 : w3.cell? ⟨w.heap.size + 1 + 1, 1, none⟩ = some (Value.slice none 0 0) := hgrow.cell kR1 (by simp); replace fR1 : w3.frozen? ⟨w.heap.size + 1 + 1, 1, none⟩ = false := (grown_frozen hgrow (by dsimp only; omega) (by simp)).trans fR1; have HZ3 := hide (HZ.out.grown hgrow (by omega) (by simp)); have B3 := hide (own_made2 hown).blk; have q3 := B3.out.lt; clear hown hgrow)
      | (refine wpList_copy_lim rfl _ _ 24 24 rfl Try.underlying24 Try.size51 w2.heap.size ((Num.limbs x).length + 1) ((Num.limbs x).length + 1) a (Num.limbs x).length ca rfl rfl _ _ B3.out (by simp) (HA.out.below HZ3.out) (by omega) ?_; intro w4 hB4 hg4; replace kP0 : w4.cell? ⟨w.heap.size, 0, none⟩ = some (Value.bool n1) := hg4.cell kP0 (by simp; omega); replace fP0 : w4.frozen? ⟨w.heap.size, 0, none⟩ = false := (grown_frozen hg4 (by dsimp only; omega) (by simp; omega)).trans fP0; replace kP1 : w4.cell? ⟨w.heap.size, 1, none⟩ = some (Value.slice a (Num.limbs x).length ca) := hg4.cell kP1 (by simp; omega); replace fP1 : w4.frozen? ⟨w.heap.size, 1, none⟩ = false := (grown_frozen hg4 (by dsimp only; omega) (by simp; omega)).trans fP1; replace kQ0 : w4.cell? ⟨w.heap.size + 1, 0, none⟩ = some (Value.bool n2) := hg4.cell kQ0 (by simp; omega); replace fQ0 : w4.frozen? ⟨w.heap.size + 1, 0, none⟩ = false := (grown_frozen hg4 (by dsimp only; omega) (by simp; omega)).trans fQ0; replace kQ1 : w4.cell? ⟨w.heap.size + 1, 1, none⟩ = some (Value.slice b (Num.limbs y).length cb) := hg4.cell kQ1 (by simp; omega); replace fQ1 : w4.frozen? ⟨w.heap.size + 1, 1, none⟩ = false := (grown_frozen hg4 (by dsimp only; omega) (by simp; omega)).trans fQ1; replace kR0 : w4.cell? ⟨w.heap.size + 1 + 1, 0, none⟩ = some (Value.bool false) := hg4.cell kR0 (by simp; omega); replace fR0 : w4.frozen? ⟨w.heap.size + 1 + 1, 0, none⟩ = false := (grown_frozen hg4 (by dsimp only; omega) (by simp; omega)).trans fR0; replace kR1 : w4.cell? ⟨w.heap.size + 1 + 1, 1, none⟩ = some (Value.slice none 0 0) := hg4.cell kR1 (by simp; omega); replace fR1 : w4.frozen? ⟨w.heap.size + 1 + 1, 1, none⟩ = false := (grown_frozen hg4 (by dsimp only; omega) (by simp; omega)).trans fR1; have HZ4 := hide (HZ3.out.grown hg4 HZ3.out.size (fun k e => by cases e; omega)); have B4 := hide hB4; clear hB4 hg4))
    refine (addI (!n1 == n2) w2.heap.size 0 ((Num.limbs x).length + 1) ((Num.limbs x).length + 1) _ b (Num.limbs y).length cb (Num.limbs y) _ B4.out (by simp) (Nat.le_refl _) (by omega) (HBB.out.below HZ4.out) (fun hp gb ob s e => by have := seg_low HBB.out hp e; omega)).mono ?_
    rintro e w5 ⟨zs, c, hS, he, hB5, hg5⟩
    obtain ⟨r5, rfl⟩ : ∃ r : Int, e = .returned (.int .u32 r) := ⟨_, he⟩
    clear he
    have q4 := B4.out.lt
    replace kP0 : w5.cell? ⟨w.heap.size, 0, none⟩ = some (Value.bool n1) := hg5.cell kP0 (by simp; omega)
    replace fP0 : w5.frozen? ⟨w.heap.size, 0, none⟩ = false := (grown_frozen hg5 (by dsimp only; omega) (by simp; omega)).trans fP0
    replace kP1 : w5.cell? ⟨w.heap.size, 1, none⟩ = some (Value.slice a (Num.limbs x).length ca) := hg5.cell kP1 (by simp; omega)
    replace fP1 : w5.frozen? ⟨w.heap.size, 1, none⟩ = false := (grown_frozen hg5 (by dsimp only; omega) (by simp; omega)).trans fP1
    replace kQ0 : w5.cell? ⟨w.heap.size + 1, 0, none⟩ = some (Value.bool n2) := hg5.cell kQ0 (by simp; omega)
    replace fQ0 : w5.frozen? ⟨w.heap.size + 1, 0, none⟩ = false := (grown_frozen hg5 (by dsimp only; omega) (by simp; omega)).trans fQ0
    replace kQ1 : w5.cell? ⟨w.heap.size + 1, 1, none⟩ = some (Value.slice b (Num.limbs y).length cb) := hg5.cell kQ1 (by simp; omega)
    replace fQ1 : w5.frozen? ⟨w.heap.size + 1, 1, none⟩ = false := (grown_frozen hg5 (by dsimp only; omega) (by simp; omega)).trans fQ1
    replace kR0 : w5.cell? ⟨w.heap.size + 1 + 1, 0, none⟩ = some (Value.bool false) := hg5.cell kR0 (by simp; omega)
    replace fR0 : w5.frozen? ⟨w.heap.size + 1 + 1, 0, none⟩ = false := (grown_frozen hg5 (by dsimp only; omega) (by simp; omega)).trans fR0
    replace kR1 : w5.cell? ⟨w.heap.size + 1 + 1, 1, none⟩ = some (Value.slice none 0 0) := hg5.cell kR1 (by simp; omega)
    replace fR1 : w5.frozen? ⟨w.heap.size + 1 + 1, 1, none⟩ = false := (grown_frozen hg5 (by dsimp only; omega) (by simp; omega)).trans fR1
    have HZ5 := hide (HZ4.out.grown hg5 HZ4.out.size (fun k e => by cases e; omega))
    have hzl := hS.1
    have HV := hide (sum_val hS hXY)
    have HO5 := hide (sum_own (base := w2.heap.size) hB5 hzl rfl (Nat.le_refl _) (by omega))
    have q5 := hB5.lt
    clear hB5 hg5 hS B3 B4 HZ3 HZ4 q3 q4
    go_wp2_with fail
    refine (bigOfI n1 _ _ _ zs w2.heap.size _ HO5.out (by omega)).mono ?_
    rintro e w6 ⟨v6, rfl, hn6, hb6⟩
    replace kR0 := (hb6.cell (p := ⟨w.heap.size + 1 + 1, 0, none⟩) (by dsimp only; omega)).trans kR0
    replace fR0 := (hb6.frozen (p := ⟨w.heap.size + 1 + 1, 0, none⟩) (by dsimp only; omega)).trans fR0
    replace kR1 := (hb6.cell (p := ⟨w.heap.size + 1 + 1, 1, none⟩) (by dsimp only; omega)).trans kR1
    replace fR1 := (hb6.frozen (p := ⟨w.heap.size + 1 + 1, 1, none⟩) (by dsimp only; omega)).trans fR1
    rw [HV.out, sum_sign n1 n2 x y hXY] at hn6
    have HF := hide (fun x y => fin_box (N := w.heap.size + 1 + 1) (x := x) (y := y) hn6 (by omega) (by omega) (bl_trans HZ5.out hb6))
    obtain ⟨a6, c6, rfl, ho6⟩ := hn6
    clear hb6 ho6 HO5 kP0 kP1 kQ0 kQ1 fP0 fP1 fQ0 fQ1
    go_wp2
    refine bodyPost_ret (v := .agg #[.bool (sgn (mk n1 x + mk n2 y)), .slice a6 (lms (mk n1 x + mk n2 y)).length c6]) (by simp [results, Try.results51, go_sem, *]) rfl ?_
    exact ⟨_, rfl, HF.out _ _⟩
end Go.Proofs.Ytpjckilmbidbgaa

/- A number's limbs, taken off its structure. -/
namespace Go.Proofs.Ytpjckilmbidbgaa
open Go.RowKit
theorem field_limbs (x y : Value) (w : World) (hy : ∃ a n c, y = .slice a n c) : Sem.run Try.prog (Instr.field 26 (.agg #[x, y]) 1) w = .ok y w := by
  obtain ⟨a, n, c, rfl⟩ := hy
  simp [Instr.field, go_sem, asAgg]


end Go.Proofs.Ytpjckilmbidbgaa

/- The walks of draws of numbers: a bit, limbs, some number. -/
namespace Go.Proofs.Ytpjckilmbidbgaa
open Go.RowKit
set_option linter.unusedVariables false

theorem two_mod (K : Nat) : ∃ Y : Nat, (2 : Int) ^ (K % 32) % 4294967296 = (Y : Int) ∧ Y < 4294967296 ∧ Y ≠ 0 := by
  have hlt : 2 ^ (K % 32) < 2 ^ 32 := Nat.pow_lt_pow_right (by omega) (Nat.mod_lt _ (by omega))
  have hpos : 0 < 2 ^ (K % 32) := Nat.pow_pos (by omega)
  obtain ⟨m, hm, h1, h2⟩ : ∃ m : Nat, (2 : Int) ^ (K % 32) = (m : Int) ∧ m < 4294967296 ∧ 0 < m := ⟨2 ^ (K % 32), by rw [Int.natCast_pow]; rfl, hlt, hpos⟩
  exact ⟨m % 4294967296, by rw [hm]; omega, Nat.mod_lt _ (by omega), by omega⟩
theorem nat_pos_of {xs : List Nat} {y : Nat} (h : y ∈ xs) (hy : y ≠ 0) : Num.nat xs ≠ 0 := by
  induction xs with
  | nil => cases h
  | cons x r ih =>
    rw [Num.nat]
    rcases List.mem_cons.1 h with e | e
    · subst e; omega
    · have := ih e; omega
theorem set_pos {n q Y : Nat} (hq : q < n) (hY : Y ≠ 0) : Num.nat ((List.replicate n 0).set q Y) ≠ 0 :=
  nat_pos_of (List.mem_set (by simpa using hq) Y) hY
theorem far_cell {w w' : World} {r : Option Nat} (h : w.grownBy w' r) (p : Addr) (h1 : p.block < w.heap.size) (h2 : some p.block ≠ r) : w'.cell? p = w.cell? p := World.cell?_of_block (w := w) (h.block p.block h1 h2)
theorem far_frozen {w w' : World} {r : Option Nat} (h : w.grownBy w' r) (p : Addr) (h1 : p.block < w.heap.size) (h2 : some p.block ≠ r) : w'.frozen? p = w.frozen? p := World.frozen?_of_block (w := w) (h.block p.block h1 h2)
theorem fin_two {w w1 : World} {N b n c : Nat} {a : Option Addr} {xs : List Nat} (h : Own w1 b a n c xs) (hN : N < b) (wN : w.heap.size ≤ N) (x y : Value) : Own ((w1.setCell ⟨N, 0, none⟩ x).setCell ⟨N, 1, none⟩ y) w.heap.size a n c xs :=
  ((h.setCell (p := ⟨N, 0, none⟩) hN x).setCell (p := ⟨N, 1, none⟩) hN y).mono (by omega)

set_option maxHeartbeats 2000000 in
theorem bitD (K : Nat) (w : World) (h1 : K < 1280) :
    Calls Try.prog 69 #[.int .i64 K] w fun e w' => ∃ z a' c', e = .returned (.agg #[.bool (sgn z), .slice a' (lms z).length c']) ∧ ((lms z).length ≤ 40 ∧ z ≠ 0) ∧ Own w' w.heap.size a' (lms z).length c' (lms z) ∧ Below w.heap.size w w' := by
  obtain ⟨i0, hi, hz0, hz1, hz2⟩ := info_parts Try.info51
  obtain ⟨q, hq⟩ : ∃ q, K / 32 = q := ⟨_, rfl⟩
  have hq1 : q ≤ 39 := by omega
  have hqi : (K : Int) / 32 = (q : Int) := by omega
  obtain ⟨Y, hY, hY2, hY3⟩ := two_mod K
  have kr0 : (w.alloc (Obj.cells #[Value.bool false, Value.slice none 0 0] 26)).cell? ⟨w.heap.size, 0, none⟩ = some (Value.bool false) := by go_simp
  have kr1 : (w.alloc (Obj.cells #[Value.bool false, Value.slice none 0 0] 26)).cell? ⟨w.heap.size, 1, none⟩ = some (Value.slice none 0 0) := by go_simp
  have fr0 : (w.alloc (Obj.cells #[Value.bool false, Value.slice none 0 0] 26)).frozen? ⟨w.heap.size, 0, none⟩ = false := by go_simp
  have fr1 : (w.alloc (Obj.cells #[Value.bool false, Value.slice none 0 0] 26)).frozen? ⟨w.heap.size, 1, none⟩ = false := by go_simp
  have zr : (w.alloc (Obj.cells #[Value.bool false, Value.slice none 0 0] 26)).heap.size = w.heap.size + 1 := by simp
  have HZR := hide zr
  have HB := hide (bl_alloc (bl_refl w) (Obj.cells #[Value.bool false, Value.slice none 0 0] 26))
  clear zr
  go_enter Try.func69, Try.ntmps69
  go_upto_region 1 with fail
  generalize w.alloc (Obj.cells #[Value.bool false, Value.slice none 0 0] 26) = wa at *
  go_wp2_with (at_make; refine wpList_make_full _ rfl _ _ 24 rfl (w.heap.size + 1) 51 i0 (.int .u32 0) 1 Try.underlying24 hi hz0 hz1 _ _ _ _ (q + 1) rfl rfl (by omega) (by omega) (by rw [hz2]; omega) (by unfold maxLen; omega) (by have := HZR.out; omega) ?_; intro w1 hown hgrow; have hb1 : Below wa.heap.size wa w1 := (Below.refl _ _).grown hgrow (Nat.le_refl _) (by simp); have HO := hide (own_made2 hown); have hlow := hb1.size; clear hown hgrow; rw [HZR.out] at *; have d0 := own_cell HO.out q (by simp); have f0 := HO.out.1.frozenAt q)
  have hst := own_set HO.out q Y hY2
  replace kr0 := (far_cell hst.2 ⟨w.heap.size, 0, none⟩ (by dsimp only; omega) (fun e => by injection e with e; dsimp only at e; omega)).trans ((hb1.cell (p := ⟨w.heap.size, 0, none⟩) (by dsimp only; omega)).trans kr0)
  replace kr1 := (far_cell hst.2 ⟨w.heap.size, 1, none⟩ (by dsimp only; omega) (fun e => by injection e with e; dsimp only at e; omega)).trans ((hb1.cell (p := ⟨w.heap.size, 1, none⟩) (by dsimp only; omega)).trans kr1)
  replace fr0 := (far_frozen hst.2 ⟨w.heap.size, 0, none⟩ (by dsimp only; omega) (fun e => by injection e with e; dsimp only at e; omega)).trans ((hb1.frozen (p := ⟨w.heap.size, 0, none⟩) (by dsimp only; omega)).trans fr0)
  replace fr1 := (far_frozen hst.2 ⟨w.heap.size, 1, none⟩ (by dsimp only; omega) (fun e => by injection e with e; dsimp only at e; omega)).trans ((hb1.frozen (p := ⟨w.heap.size, 1, none⟩) (by dsimp only; omega)).trans fr1)
  replace HB : Hid (Below w.heap.size w (w1.setCell ⟨w.heap.size + 1, q, none⟩ (Value.int .u32 Y))) := hide ((HB.out.trans (hb1.mono (Nat.le_succ _))).setCell (p := ⟨w.heap.size + 1, q, none⟩) (Nat.le_succ _) _)
  have HS := hide hst.1
  have hls := hst.2.size
  clear hst d0 f0 hb1 HO
  generalize w1.setCell ⟨w.heap.size + 1, q, none⟩ (Value.int .u32 Y) = w2 at *
  refine (makeS false _ (q + 1) (q + 1) _ _ HS.out.seg (by omega)).mono ?_
  rintro e w3 ⟨v, rfl, ⟨a', c', rfl, ho⟩, hb3⟩
  have hL := small_len (n := false) HS.out.2
  rw [HS.out.len] at hL
  have hz3 := hb3.size
  replace kr0 := (hb3.cell (p := ⟨w.heap.size, 0, none⟩) (by dsimp only; omega)).trans kr0
  replace kr1 := (hb3.cell (p := ⟨w.heap.size, 1, none⟩) (by dsimp only; omega)).trans kr1
  replace fr0 := (hb3.frozen (p := ⟨w.heap.size, 0, none⟩) (by dsimp only; omega)).trans fr0
  replace fr1 := (hb3.frozen (p := ⟨w.heap.size, 1, none⟩) (by dsimp only; omega)).trans fr1
  replace HB := hide (bl_trans HB.out hb3)
  have HO := hide ho
  have HLL := hide hL
  clear hb3 ho hL HS
  have HNZ : Hid (mk false (Num.nat ((List.replicate (q + 1) 0).set q Y)) ≠ 0) := hide (fun e => set_pos (n := q + 1) (q := q) (by omega) hY3 (by unfold mk at e; simpa using e))
  generalize mk false (Num.nat ((List.replicate (q + 1) 0).set q Y)) = z at *
  go_wp2
  refine bodyPost_ret (v := (.agg #[.bool (sgn z), .slice a' (lms z).length c'])) (by simp [results, Try.results69, go_sem, kr0, kr1]) rfl ?_
  exact ⟨z, a', c', rfl, ⟨by have := HLL.out; omega, HNZ.out⟩, fin_two HO.out (by omega) (Nat.le_refl _) _ _, (HB.out.setCell (p := ⟨w.heap.size, 0, none⟩) (Nat.le_refl _) _).setCell (p := ⟨w.heap.size, 1, none⟩) (Nat.le_refl _) _⟩

/-- in the midst of a draw: the cursor, the box of the answer, all that was there -/
structure Dst (w : World) (B : Nat) (a : Option Addr) (len cap : Nat) (wr : World) : Prop where
  cur : Cur B a len cap wr
  only : Only B w wr
  r0 : wr.cell? ⟨w.heap.size, 0, none⟩ = some (.bool false)
  r1 : wr.cell? ⟨w.heap.size, 1, none⟩ = some (.slice none 0 0)
  g0 : wr.frozen? ⟨w.heap.size, 0, none⟩ = false
  g1 : wr.frozen? ⟨w.heap.size, 1, none⟩ = false
  z : w.heap.size < wr.heap.size
theorem Dst.init {w : World} {B : Nat} {a : Option Addr} {len cap : Nat} (h : Cur B a len cap w) : Dst w B a len cap (w.alloc (Obj.cells #[Value.bool false, Value.slice none 0 0] 26)) :=
  ⟨h.alloc _, (Only.refl B w).alloc _, by go_simp, by go_simp, by go_simp, by go_simp, by simp only [World.size_alloc]; omega⟩
theorem Dst.on {w wr w2 : World} {B : Nat} {a : Option Addr} {len cap : Nat} (h : Dst w B a len cap wr) (hB : B < w.heap.size) (hc : Cur B a len cap w2) (ho : Only B wr w2) : Dst w B a len cap w2 := by
  have hz := h.z
  exact ⟨hc, h.only.trans ho, (ho.cell (p := ⟨w.heap.size, 0, none⟩) hz (by dsimp only; omega)).trans h.r0, (ho.cell (p := ⟨w.heap.size, 1, none⟩) hz (by dsimp only; omega)).trans h.r1, (ho.frozen (p := ⟨w.heap.size, 0, none⟩) hz (by dsimp only; omega)).trans h.g0, (ho.frozen (p := ⟨w.heap.size, 1, none⟩) hz (by dsimp only; omega)).trans h.g1, Nat.lt_of_lt_of_le hz ho.size⟩
theorem Dst.bel {w wr w2 : World} {B : Nat} {a : Option Addr} {len cap : Nat} (h : Dst w B a len cap wr) (hb : Below wr.heap.size wr w2) : Dst w B a len cap w2 := by
  have hz := h.z
  exact ⟨h.cur.bel hb, h.only.bel hb, (hb.cell (p := ⟨w.heap.size, 0, none⟩) hz).trans h.r0, (hb.cell (p := ⟨w.heap.size, 1, none⟩) hz).trans h.r1, (hb.frozen (p := ⟨w.heap.size, 0, none⟩) hz).trans h.g0, (hb.frozen (p := ⟨w.heap.size, 1, none⟩) hz).trans h.g1, Nat.lt_of_lt_of_le hz hb.size⟩
theorem Dst.gr {w wr w2 : World} {B : Nat} {a : Option Addr} {len cap : Nat} {r : Option Nat} (h : Dst w B a len cap wr) (hB : B < w.heap.size) (hg : wr.grownBy w2 r) (hr : ∀ k, r = some k → w.heap.size + 1 ≤ k) : Dst w B a len cap w2 := by
  have hz := h.z
  have ne : some w.heap.size ≠ r := fun e => by have := hr _ e.symm; omega
  exact ⟨h.cur.kept (below_of_grown hg (fun k e => by have := hr k e; omega) (by omega)), h.only.grow hg (fun k e => by have := hr k e; omega), (far_cell hg ⟨w.heap.size, 0, none⟩ hz ne).trans h.r0, (far_cell hg ⟨w.heap.size, 1, none⟩ hz ne).trans h.r1, (far_frozen hg ⟨w.heap.size, 0, none⟩ hz ne).trans h.g0, (far_frozen hg ⟨w.heap.size, 1, none⟩ hz ne).trans h.g1, Nat.lt_of_lt_of_le hz hg.size⟩
theorem Dst.fin {w wr : World} {B : Nat} {a : Option Addr} {len cap : Nat} (h : Dst w B a len cap wr) (hB : B < w.heap.size) (x y : Value) : Cur B a len cap ((wr.setCell ⟨w.heap.size, 0, none⟩ x).setCell ⟨w.heap.size, 1, none⟩ y) ∧ Only B w ((wr.setCell ⟨w.heap.size, 0, none⟩ x).setCell ⟨w.heap.size, 1, none⟩ y) := by
  have hz := h.z
  have hb : Below w.heap.size wr ((wr.setCell ⟨w.heap.size, 0, none⟩ x).setCell ⟨w.heap.size, 1, none⟩ y) := ((Below.refl w.heap.size wr).setCell (p := ⟨w.heap.size, 0, none⟩) (Nat.le_refl _) x).setCell (p := ⟨w.heap.size, 1, none⟩) (Nat.le_refl _) y
  refine ⟨h.cur.kept (hb.mono hB), ⟨hb.os.trans h.only.os, hb.tape.trans h.only.tape, hb.output.trans h.only.output, Nat.le_trans h.only.size hb.size, fun k hk hn => (hb.block k hk).trans (h.only.block k hk hn)⟩⟩
/-- a drawn number -/
def NumD (most : Nat) (w : World) (B : Nat) (a : Option Addr) (len cap : Nat) (w' : World) (e : Ending) : Prop :=
  ∃ z a' c', e = .returned (.agg #[.bool (sgn z), .slice a' (lms z).length c']) ∧ (lms z).length ≤ most ∧ Own w' w.heap.size a' (lms z).length c' (lms z) ∧ Cur B a len cap w' ∧ Only B w w'

set_option maxHeartbeats 4000000 in
theorem bigD (most : Nat) (B : Nat) (a : Option Addr) (len cap : Nat) (w : World) (hc : Cur B a len cap w) (hm : most ≤ 40) :
    Calls Try.prog 68 #[.pointer (some ⟨B, 0, none⟩), .int .i64 most] w fun e w' => NumD most w B a len cap w' e := by
  obtain ⟨i0, hi, hz0, hz1, hz2⟩ := info_parts Try.info51
  have hB := hc.hB
  have HBB := hide hB
  have HD := hide (Dst.init hc)
  have hzr : (w.alloc (Obj.cells #[Value.bool false, Value.slice none 0 0] 26)).heap.size = w.heap.size + 1 := by simp
  have HZR := hide hzr
  clear hc hzr
  go_enter Try.func68, Try.ntmps68
  go_upto_region 1 with fail
  generalize w.alloc (Obj.cells #[Value.bool false, Value.slice none 0 0] 26) = wa at *
  go_wp2_with fail
  refine (belowD B a len cap _ HD.out.cur (most + 1) (by omega)).mono ?_
  rintro e w2 ⟨x, hx, rfl, hc2, ho2⟩
  have hx' : 0 ≤ x ∧ x < (most : Int) + 1 := by rcases hx with h | h <;> omega
  obtain ⟨n, rfl⟩ := Int.eq_ofNat_of_zero_le hx'.1
  have hn : n ≤ most := by have := hx'.2; omega
  replace HD := hide (HD.out.on HBB.out hc2 ho2)
  clear hx hx' hc2 ho2 HZR
  have zz := HD.out.z
  have HO0 : Hid (Own (w2.alloc (Obj.cells #[] 51)) (w.heap.size + 1) (some ⟨w2.heap.size, 0, none⟩) 0 0 []) := hide ⟨by
    have := World.ownsRow_lit (base := w.heap.size + 1) (e := 51) (size := 1) w2 #[] 0 (by omega) (by unfold maxLen; omega) rfl
    exact this, fun _ h => by cases h⟩
  have HD0 := hide (HD.out.bel (bl_alloc (bl_refl w2) (Obj.cells #[] 51)))
  clear HD zz
  go_wp2
  go_loopw [6, 7] (fun l i wr => ∃ (k : Nat) (ao : Option Addr) (co : Nat) (xs : List Nat), k ≤ n ∧ i = .int .i64 k ∧ l = .slice ao k co ∧ Hid (Own wr (w.heap.size + 1) ao k co xs) ∧ Hid (Dst w B a len cap wr)) (fun _ i _ => n - (intOf i).toNat)
  case atStart => exact ⟨0, _, _, _, Nat.zero_le _, rfl, rfl, HO0, HD0⟩
  case round =>
    clear HO0 HD0
    obtain ⟨k, ao, co, xs, hk, rfl, rfl, HO, HD⟩ := hrel
    by_cases hlt : k < n
    · have hlt' : (k : Int) < (n : Int) := by omega
      go_wp2_with fail
      refine (belowD B a len cap _ HD.out.cur 3 (by omega)).mono ?_
      rintro e w3 ⟨x, hx, rfl, hc3, ho3⟩
      have hx' : 0 ≤ x ∧ x < 3 := by rcases hx with h | h <;> omega
      obtain ⟨hx1, hx2⟩ := hx'
      replace HO := hide (HO.out.only ho3 (by have := HBB.out; omega))
      replace HD := hide (HD.out.on HBB.out hc3 ho3)
      have zz := HD.out.z
      clear hx hc3 ho3
      by_cases h0 : x = 0
      · have e0 : (x == 0) = true := by rw [h0]; rfl
        clear h0
        go_wp2_with ((at_builtin; refine wpList_append_own _ rfl _ _ 24 rfl (w.heap.size + 1) 51 i0 (.int .u32 0) 1 4 Try.underlying24 hi hz0 hz1 hz2 rfl (by decide) _ _ _ rfl (HO.out.1.alloc _) ⟨w3.heap.size, 0, none⟩ 1 1 [_] rfl rfl (cell_one_new _ _ _) (by simp [Value.oneCell']) (by unfold maxLen; omega) (by omega) (by simp only [World.size_alloc]; omega) ?_; intro v' wn hown' hgrow' _; obtain ⟨a1, c1, rfl⟩ := row_val hown'; have hg2 := (show (w3.alloc _).grownBy wn (Value.slice ao k co).ownBlock from hgrow'); clear hgrow'))
        have hD2 := (HD.out.bel (bl_alloc (bl_refl w3) _)).gr HBB.out hg2 (fun j e => (HO.out.1.lt j e).1)
        have ho2 : Own wn (w.heap.size + 1) a1 (k + 1) c1 (xs ++ [4294967295]) := ⟨by rw [List.map_append]; exact hown', fun y hy => by rcases List.mem_append.1 hy with h | h; exact HO.out.2 y h; simp at h; omega⟩
        exact ⟨⟨k + 1, a1, c1, xs ++ [4294967295], by omega, by go_num, rfl, hide ho2, hide hD2⟩, by simp [intOf]; omega⟩
      have e0 : (x == 0) = false := by rw [beq_eq_false_iff_ne]; exact h0
      by_cases h1 : x = 1
      · have e1 : (x == 1) = true := by rw [h1]; rfl
        clear h0 h1
        go_wp2_with ((at_builtin; refine wpList_append_own _ rfl _ _ 24 rfl (w.heap.size + 1) 51 i0 (.int .u32 0) 1 4 Try.underlying24 hi hz0 hz1 hz2 rfl (by decide) _ _ _ rfl (HO.out.1.alloc _) ⟨w3.heap.size, 0, none⟩ 1 1 [_] rfl rfl (cell_one_new _ _ _) (by simp [Value.oneCell']) (by unfold maxLen; omega) (by omega) (by simp only [World.size_alloc]; omega) ?_; intro v' wn hown' hgrow' _; obtain ⟨a1, c1, rfl⟩ := row_val hown'; have hg2 := (show (w3.alloc _).grownBy wn (Value.slice ao k co).ownBlock from hgrow'); clear hgrow'))
        have hD2 := (HD.out.bel (bl_alloc (bl_refl w3) _)).gr HBB.out hg2 (fun j e => (HO.out.1.lt j e).1)
        have ho2 : Own wn (w.heap.size + 1) a1 (k + 1) c1 (xs ++ [0]) := ⟨by rw [List.map_append]; exact hown', fun y hy => by rcases List.mem_append.1 hy with h | h; exact HO.out.2 y h; simp at h; omega⟩
        exact ⟨⟨k + 1, a1, c1, xs ++ [0], by omega, by go_num, rfl, hide ho2, hide hD2⟩, by simp [intOf]; omega⟩
      · have e1 : (x == 1) = false := by rw [beq_eq_false_iff_ne]; exact h1
        clear h0 h1
        go_wp2_with fail
        refine (wordD B a len cap _ HD.out.cur).mono ?_
        rintro e w4 ⟨u, hu, rfl, hc4, ho4⟩
        replace HO := hide (HO.out.only ho4 (by have := HBB.out; omega))
        replace HD := hide (HD.out.on HBB.out hc4 ho4)
        replace zz := HD.out.z
        clear hc4 ho4
        go_wp2_with ((at_builtin; refine wpList_append_own _ rfl _ _ 24 rfl (w.heap.size + 1) 51 i0 (.int .u32 0) 1 4 Try.underlying24 hi hz0 hz1 hz2 rfl (by decide) _ _ _ rfl (HO.out.1.alloc _) ⟨w4.heap.size, 0, none⟩ 1 1 [_] rfl rfl (cell_one_new _ _ _) (by simp [Value.oneCell']) (by unfold maxLen; omega) (by omega) (by simp only [World.size_alloc]; omega) ?_; intro v' wn hown' hgrow' _; obtain ⟨a1, c1, rfl⟩ := row_val hown'; have hg2 := (show (w4.alloc _).grownBy wn (Value.slice ao k co).ownBlock from hgrow'); clear hgrow'))
        have hD2 := (HD.out.bel (bl_alloc (bl_refl w4) _)).gr HBB.out hg2 (fun j e => (HO.out.1.lt j e).1)
        have ho2 : Own wn (w.heap.size + 1) a1 (k + 1) c1 (xs ++ [u]) := ⟨by rw [List.map_append]; exact hown', fun y hy => by rcases List.mem_append.1 hy with h | h; exact HO.out.2 y h; simp at h; omega⟩
        exact ⟨⟨k + 1, a1, c1, xs ++ [u], by omega, by go_num, rfl, hide ho2, hide hD2⟩, by simp [intOf]; omega⟩
    · obtain rfl : k = n := by omega
      go_wp2_with fail
      refine (onceD B a len cap _ HD.out.cur 2 (by omega)).mono ?_
      rintro e w3 ⟨bt, rfl, hc3, ho3⟩
      replace HO := hide (HO.out.only ho3 (by have := HBB.out; omega))
      replace HD := hide (HD.out.on HBB.out hc3 ho3)
      clear hc3 ho3
      go_wp2_with fail
      refine (makeS bt ao k co xs _ HO.out.seg (by omega)).mono ?_
      rintro e w4 ⟨v, rfl, ⟨a', c', rfl, ho⟩, hb4⟩
      have hL := small_len (n := bt) HO.out.2
      rw [HO.out.len] at hL
      have hz3 := HD.out.z
      replace HD := hide (HD.out.bel hb4)
      have HO4 := hide ho
      have HLL := hide hL
      clear hb4 ho hL HO
      have kr0 := HD.out.r0
      have kr1 := HD.out.r1
      have fr0 := HD.out.g0
      have fr1 := HD.out.g1
      have zr := HD.out.z
      generalize mk bt (Num.nat xs) = z at *
      go_wp2
      refine bodyPost_ret (v := (.agg #[.bool (sgn z), .slice a' (lms z).length c'])) (by simp [results, Try.results68, go_sem, kr0, kr1]) rfl ?_
      exact ⟨z, a', c', rfl, by have := HLL.out; omega, fin_two HO4.out (by omega) (Nat.le_refl _) _ _, HD.out.fin HBB.out _ _⟩
end Go.Proofs.Ytpjckilmbidbgaa

/- The walks of draws of numbers, some and any. -/
namespace Go.Proofs.Ytpjckilmbidbgaa
open Go.RowKit
set_option linter.unusedVariables false

theorem len_int (z : Int) (h1 : -9223372036854775808 ≤ z) (h2 : z ≤ 9223372036854775807) : (lms z).length ≤ 2 := Num.limbs_len.2 (by show z.natAbs < 18446744073709551616; omega)
set_option maxHeartbeats 4000000 in
theorem someB (B : Nat) (a : Option Addr) (len cap : Nat) (w : World) (hc : Cur B a len cap w) :
    Calls Try.prog 72 #[.pointer (some ⟨B, 0, none⟩)] w fun e w' => NumD 40 w B a len cap w' e := by
  have hB := hc.hB
  have HBB := hide hB
  have HD := hide (Dst.init hc)
  clear hc
  go_enter Try.func72, Try.ntmps72
  go_upto_region 1 with fail
  generalize w.alloc (Obj.cells #[Value.bool false, Value.slice none 0 0] 26) = wa at *
  go_wp2_with fail
  refine (belowD B a len cap _ HD.out.cur 8 (by omega)).mono ?_
  rintro e w2 ⟨x, hx, rfl, hc2, ho2⟩
  have hx' : 0 ≤ x ∧ x < 8 := by rcases hx with h | h <;> omega
  obtain ⟨hx1, hx2⟩ := hx'
  replace HD := hide (HD.out.on HBB.out hc2 ho2)
  clear hx hc2 ho2
  by_cases h0 : x = 0
  · have e0 : (x == 0) = true := by rw [h0]; rfl
    clear h0
    go_wp2_with fail
    have hb := bl_alloc (bl_refl w2) (Obj.cells #[Value.int .i64 0, Value.int .i64 1, Value.int .i64 (-1), Value.int .i64 2, Value.int .i64 (-2), Value.int .i64 4294967295, Value.int .i64 4294967296, Value.int .i64 (-4294967296), Value.int .i64 9223372036854775807, Value.int .i64 (-9223372036854775808)] 3)
    have HPK := hide (new_ints w2 #[Value.int .i64 0, Value.int .i64 1, Value.int .i64 (-1), Value.int .i64 2, Value.int .i64 (-2), Value.int .i64 4294967295, Value.int .i64 4294967296, Value.int .i64 (-4294967296), Value.int .i64 9223372036854775807, Value.int .i64 (-9223372036854775808)] 3 (fun z => -9223372036854775808 ≤ z ∧ z ≤ 9223372036854775807) (by
      intro v hv
      simp only [List.mem_cons, List.not_mem_nil, or_false] at hv
      rcases hv with rfl | rfl | rfl | rfl | rfl | rfl | rfl | rfl | rfl | rfl
      all_goals exact ⟨_, by omega, rfl⟩) 10 (by simp))
    have zL : w2.heap.size < (w2.alloc (Obj.cells #[Value.int .i64 0, Value.int .i64 1, Value.int .i64 (-1), Value.int .i64 2, Value.int .i64 (-2), Value.int .i64 4294967295, Value.int .i64 4294967296, Value.int .i64 (-4294967296), Value.int .i64 9223372036854775807, Value.int .i64 (-9223372036854775808)] 3)).heap.size := by simp only [World.size_alloc]; omega
    have hB2 := HD.out.z
    replace HD := hide (HD.out.bel hb)
    clear hb
    generalize w2.alloc (Obj.cells #[Value.int .i64 0, Value.int .i64 1, Value.int .i64 (-1), Value.int .i64 2, Value.int .i64 (-2), Value.int .i64 4294967295, Value.int .i64 4294967296, Value.int .i64 (-4294967296), Value.int .i64 9223372036854775807, Value.int .i64 (-9223372036854775808)] 3) = w3 at *
    refine (pickIntD B a len cap _ HD.out.cur w2.heap.size 10 (fun z => -9223372036854775808 ≤ z ∧ z ≤ 9223372036854775807) zL (by omega) (by omega) (by omega) HPK.out).mono ?_
    rintro e w4 ⟨z, hz, rfl, hc4, ho4⟩
    obtain ⟨hza, hzb⟩ := hz
    replace HD := hide (HD.out.on HBB.out hc4 ho4)
    clear hc4 ho4 HPK zL hB2
    go_wp2_with fail
    refine (fromS z _ (by omega) (by omega)).mono ?_
    rintro e wz ⟨v, rfl, ⟨a', c', rfl, ho⟩, hbz⟩
    have HL := hide (len_int z (by omega) (by omega))
    have HO := hide ho
    have zb := HD.out.z
    replace HD := hide (HD.out.bel hbz)
    clear ho hbz
    have kr0 := HD.out.r0
    have kr1 := HD.out.r1
    have fr0 := HD.out.g0
    have fr1 := HD.out.g1
    have zr := HD.out.z
    go_wp2
    refine bodyPost_ret (v := (.agg #[.bool (sgn z), .slice a' (lms z).length c'])) (by simp [results, Try.results72, go_sem, kr0, kr1]) rfl ?_
    exact ⟨z, a', c', rfl, by have := HL.out; omega, fin_two HO.out (by omega) (Nat.le_refl _) _ _, HD.out.fin HBB.out _ _⟩
  have e0 : (x == 0) = false := by rw [beq_eq_false_iff_ne]; exact h0
  by_cases h1 : x = 1
  · have e1 : (x == 1) = true := by rw [h1]; rfl
    clear h0 h1
    go_wp2_with fail
    refine (bigD 4 B a len cap _ HD.out.cur (by omega)).mono ?_
    rintro e wz ⟨z, a', c', rfl, hl, ho, hcz, hoz⟩
    have HL := hide hl
    have HO := hide ho
    have zb := HD.out.z
    replace HD := hide (HD.out.on HBB.out hcz hoz)
    clear hl ho hcz hoz
    have kr0 := HD.out.r0
    have kr1 := HD.out.r1
    have fr0 := HD.out.g0
    have fr1 := HD.out.g1
    have zr := HD.out.z
    go_wp2
    refine bodyPost_ret (v := (.agg #[.bool (sgn z), .slice a' (lms z).length c'])) (by simp [results, Try.results72, go_sem, kr0, kr1]) rfl ?_
    exact ⟨z, a', c', rfl, by have := HL.out; omega, fin_two HO.out (by omega) (Nat.le_refl _) _ _, HD.out.fin HBB.out _ _⟩
  have e1 : (x == 1) = false := by rw [beq_eq_false_iff_ne]; exact h1
  by_cases h2 : x = 2
  · have e2 : (x == 2) = true := by rw [h2]; rfl
    clear h0 h1 h2
    go_wp2_with fail
    refine (onceD B a len cap _ HD.out.cur 2 (by omega)).mono ?_
    rintro e w3 ⟨bt, rfl, hc3, ho3⟩
    replace HD := hide (HD.out.on HBB.out hc3 ho3)
    clear hc3 ho3
    go_wp2_with fail
    refine (belowD B a len cap _ HD.out.cur 1280 (by omega)).mono ?_
    rintro e w4 ⟨y, hy, rfl, hc4, ho4⟩
    have hy' : 0 ≤ y ∧ y < 1280 := by rcases hy with h | h <;> omega
    obtain ⟨K, rfl⟩ := Int.eq_ofNat_of_zero_le hy'.1
    have hK := hy'.2
    replace HD := hide (HD.out.on HBB.out hc4 ho4)
    clear hc4 ho4 hy hy'
    go_wp2_with fail
    refine (bitD K _ (by omega)).mono ?_
    rintro e w5 ⟨z0, a0, c0, rfl, hl0, ho0, hb5⟩
    have HO0 := hide ho0
    have HL0 := hide hl0.1
    have zb0 := HD.out.z
    replace HD := hide (HD.out.bel hb5)
    clear hb5 ho0 hl0
    have hfl := fun (wx : World) => field_limbs (Value.bool (sgn z0)) (Value.slice a0 (lms z0).length c0) wx ⟨_, _, _, rfl⟩
    go_wp2_with fail
    refine (makeS bt a0 (lms z0).length c0 (lms z0) _ HO0.out.seg (by have := HL0.out; omega)).mono ?_
    rintro e wz ⟨v, rfl, ⟨a', c', rfl, ho⟩, hbz⟩
    have hL := small_len (n := bt) (lms_small z0)
    have HO := hide ho
    have HL := hide (Nat.le_trans hL HL0.out)
    have zb := HD.out.z
    replace HD := hide (HD.out.bel hbz)
    clear ho hbz hL HO0 HL0 hfl
    have kr0 := HD.out.r0
    have kr1 := HD.out.r1
    have fr0 := HD.out.g0
    have fr1 := HD.out.g1
    have zr := HD.out.z
    generalize mk bt (Num.nat (lms z0)) = z at *
    go_wp2
    refine bodyPost_ret (v := (.agg #[.bool (sgn z), .slice a' (lms z).length c'])) (by simp [results, Try.results72, go_sem, kr0, kr1]) rfl ?_
    exact ⟨z, a', c', rfl, by have := HL.out; omega, fin_two HO.out (by omega) (Nat.le_refl _) _ _, HD.out.fin HBB.out _ _⟩
  have e2 : (x == 2) = false := by rw [beq_eq_false_iff_ne]; exact h2
  by_cases h3 : x = 3
  · have e3 : (x == 3) = true := by rw [h3]; rfl
    clear h0 h1 h2 h3
    go_wp2_with fail
    refine (bigD 40 B a len cap _ HD.out.cur (by omega)).mono ?_
    rintro e wz ⟨z, a', c', rfl, hl, ho, hcz, hoz⟩
    have HL := hide hl
    have HO := hide ho
    have zb := HD.out.z
    replace HD := hide (HD.out.on HBB.out hcz hoz)
    clear hl ho hcz hoz
    have kr0 := HD.out.r0
    have kr1 := HD.out.r1
    have fr0 := HD.out.g0
    have fr1 := HD.out.g1
    have zr := HD.out.z
    go_wp2
    refine bodyPost_ret (v := (.agg #[.bool (sgn z), .slice a' (lms z).length c'])) (by simp [results, Try.results72, go_sem, kr0, kr1]) rfl ?_
    exact ⟨z, a', c', rfl, by have := HL.out; omega, fin_two HO.out (by omega) (Nat.le_refl _) _ _, HD.out.fin HBB.out _ _⟩
  · have e3 : (x == 3) = false := by rw [beq_eq_false_iff_ne]; exact h3
    clear h0 h1 h2 h3
    go_wp2_with fail
    refine (belowD B a len cap _ HD.out.cur 2000 (by omega)).mono ?_
    rintro e w4 ⟨y, hy, rfl, hc4, ho4⟩
    have hy' : 0 ≤ y ∧ y < 2000 := by rcases hy with h | h <;> omega
    obtain ⟨hya, hyb⟩ := hy'
    replace HD := hide (HD.out.on HBB.out hc4 ho4)
    clear hc4 ho4 hy
    go_wp2_with fail
    refine (fromS (y - 1000) _ (by omega) (by omega)).mono ?_
    rintro e wz ⟨v, rfl, ⟨a', c', rfl, ho⟩, hbz⟩
    have HL := hide (len_int (y - 1000) (by omega) (by omega))
    have HO := hide ho
    have zb := HD.out.z
    replace HD := hide (HD.out.bel hbz)
    clear ho hbz
    have kr0 := HD.out.r0
    have kr1 := HD.out.r1
    have fr0 := HD.out.g0
    have fr1 := HD.out.g1
    have zr := HD.out.z
    generalize y - 1000 = z at *
    go_wp2
    refine bodyPost_ret (v := (.agg #[.bool (sgn z), .slice a' (lms z).length c'])) (by simp [results, Try.results72, go_sem, kr0, kr1]) rfl ?_
    exact ⟨z, a', c', rfl, by have := HL.out; omega, fin_two HO.out (by omega) (Nat.le_refl _) _ _, HD.out.fin HBB.out _ _⟩
end Go.Proofs.Ytpjckilmbidbgaa

/- The walk of a draw of any number, not right sometimes: its state. -/
namespace Go.Proofs.Ytpjckilmbidbgaa
open Go.RowKit
set_option linter.unusedVariables false

theorem grown_st (W : World) (p : Addr) (v : Value) : W.grownBy (W.setCell p v) (some p.block) :=
  ⟨rfl, rfl, rfl, by simp [World.setCell], fun k _ hn => Below.heap_setCell _ _ _ _ (fun e => hn (by rw [e]))⟩
/-- any drawn sign and limbs -/
def AnyD (w : World) (B : Nat) (a : Option Addr) (len cap : Nat) (w' : World) (e : Ending) : Prop :=
  ∃ n' a' c' xs, e = .returned (.agg #[.bool n', .slice a' xs.length c']) ∧ xs.length ≤ 41 ∧ Own w' w.heap.size a' xs.length c' xs ∧ Cur B a len cap w' ∧ Only B w w'
/-- in the midst of it: the box x holds a sign and limbs -/
structure Xst (w : World) (B : Nat) (a : Option Addr) (len cap : Nat) (X : Nat) (n' : Bool) (a' : Option Addr) (c' : Nat) (xs : List Nat) (wr : World) : Prop where
  d : Dst w B a len cap wr
  hx : wr.heap[X]? = some (.cells #[.bool n', .slice a' xs.length c'] 26 (0, 0))
  wx : w.heap.size < X
  own : Own wr (w.heap.size + 1) a' xs.length c' xs
theorem Xst.zx {w wr : World} {B : Nat} {a : Option Addr} {len cap : Nat} {X : Nat} {n' : Bool} {a' : Option Addr} {c' : Nat} {xs : List Nat} (h : Xst w B a len cap X n' a' c' xs wr) : X < wr.heap.size := (Array.getElem?_eq_some_iff.1 h.hx).1
theorem Xst.x0 {w wr : World} {B : Nat} {a : Option Addr} {len cap : Nat} {X : Nat} {n' : Bool} {a' : Option Addr} {c' : Nat} {xs : List Nat} (h : Xst w B a len cap X n' a' c' xs wr) : wr.cell? ⟨X, 0, none⟩ = some (.bool n') := (Lib.cell_of_heap h.hx 0).trans rfl
theorem Xst.x1 {w wr : World} {B : Nat} {a : Option Addr} {len cap : Nat} {X : Nat} {n' : Bool} {a' : Option Addr} {c' : Nat} {xs : List Nat} (h : Xst w B a len cap X n' a' c' xs wr) : wr.cell? ⟨X, 1, none⟩ = some (.slice a' xs.length c') := (Lib.cell_of_heap h.hx 1).trans rfl
theorem Xst.f0 {w wr : World} {B : Nat} {a : Option Addr} {len cap : Nat} {X : Nat} {n' : Bool} {a' : Option Addr} {c' : Nat} {xs : List Nat} (h : Xst w B a len cap X n' a' c' xs wr) (j : Nat) : wr.frozen? ⟨X, j, none⟩ = false := Lib.frozen_of_heap h.hx j
theorem Xst.off {w wr : World} {B : Nat} {a : Option Addr} {len cap : Nat} {X : Nat} {n' : Bool} {a' : Option Addr} {c' : Nat} {xs : List Nat} (h : Xst w B a len cap X n' a' c' xs wr) : (Value.slice a' xs.length c').ownBlock ≠ some X := Lib.ownBlock_ne h.own.1 h.hx (by decide)
theorem Xst.on {w2 : World} {w wr : World} {B : Nat} {a : Option Addr} {len cap : Nat} {X : Nat} {n' : Bool} {a' : Option Addr} {c' : Nat} {xs : List Nat} (h : Xst w B a len cap X n' a' c' xs wr) (hB : B < w.heap.size) (hc : Cur B a len cap w2) (ho : Only B wr w2) : Xst w B a len cap X n' a' c' xs w2 := by
  have hx := h.wx
  exact ⟨h.d.on hB hc ho, (ho.block X h.zx (by omega)).trans h.hx, hx, h.own.only ho (by omega)⟩
/-- a limb appended, and the list laid back into the box -/
theorem Xst.app {wn : World} {o : Obj} {v : Nat} {a1 : Option Addr} {c1 : Nat} {w wr : World} {B : Nat} {a : Option Addr} {len cap : Nat} {X : Nat} {n' : Bool} {a' : Option Addr} {c' : Nat} {xs : List Nat} (h : Xst w B a len cap X n' a' c' xs wr) (hB : B < w.heap.size) (hv : v < 4294967296) (hg : (wr.alloc o).grownBy wn (Value.slice a' xs.length c').ownBlock)
    (hown : wn.ownsRow (w.heap.size + 1) 51 1 (.slice a1 (xs.length + 1) c1) (xs.length + 1) (xs.map lim ++ [.int .u32 v])) :
    wn.cell? ⟨X, 1, none⟩ = some (.slice a' xs.length c') ∧ wn.frozen? ⟨X, 1, none⟩ = false ∧ Xst w B a len cap X n' a1 c1 (xs ++ [v]) (wn.setCell ⟨X, 1, none⟩ (.slice a1 (xs.length + 1) c1)) := by
  have hx := h.wx
  have hz := h.zx
  have hb := bl_alloc (bl_refl wr) o
  have hzA : X < (wr.alloc o).heap.size := Nat.lt_of_lt_of_le hz hb.size
  have hk : wn.heap[X]? = some (.cells #[.bool n', .slice a' xs.length c'] 26 (0, 0)) := (hg.block X hzA (fun e => h.off e.symm)).trans ((hb.block X hz).trans h.hx)
  have hd : Dst w B a len cap wn := (h.d.bel hb).gr hB hg (fun j e => (h.own.1.lt j e).1)
  have hne : (Value.slice a1 (xs.length + 1) c1).ownBlock ≠ some X := Lib.ownBlock_ne hown hk (by decide)
  refine ⟨(Lib.cell_of_heap hk 1).trans rfl, Lib.frozen_of_heap hk 1, ⟨hd.gr hB (grown_st wn ⟨X, 1, none⟩ _) (fun k e => by injection e with e; dsimp only at e; omega), ?_, hx, ?_⟩⟩
  · rw [List.length_append]; simp [World.setCell, Array.getElem?_modify, hk]
  · rw [List.length_append]
    refine ⟨?_, fun y hy => by rcases List.mem_append.1 hy with h' | h'; exact h.own.2 y h'; simp at h'; omega⟩
    rw [List.map_append]
    exact World.ownsRow.kept hown (grown_st wn ⟨X, 1, none⟩ (.slice a1 (xs.length + 1) c1)) (.inr hne)
/-- the sign turned -/
theorem Xst.sign {w wr : World} {B : Nat} {a : Option Addr} {len cap : Nat} {X : Nat} {n' : Bool} {a' : Option Addr} {c' : Nat} {xs : List Nat} (h : Xst w B a len cap X n' a' c' xs wr) (hB : B < w.heap.size) (m : Bool) : Xst w B a len cap X m a' c' xs (wr.setCell ⟨X, 0, none⟩ (.bool m)) := by
  have hx := h.wx
  have hk := h.hx
  exact ⟨h.d.gr hB (grown_st wr ⟨X, 0, none⟩ _) (fun k e => by injection e with e; dsimp only at e; omega), by simp [World.setCell, Array.getElem?_modify, hk], hx, ⟨World.ownsRow.kept h.own.1 (grown_st wr ⟨X, 0, none⟩ (.bool m)) (.inr h.off), h.own.2⟩⟩
theorem Xst.fin {w wr : World} {B : Nat} {a : Option Addr} {len cap : Nat} {X : Nat} {n' : Bool} {a' : Option Addr} {c' : Nat} {xs : List Nat} (h : Xst w B a len cap X n' a' c' xs wr) (hB : B < w.heap.size) (hl : xs.length ≤ 41) (x y : Value) : AnyD w B a len cap ((wr.setCell ⟨w.heap.size, 0, none⟩ x).setCell ⟨w.heap.size, 1, none⟩ y) (.returned (.agg #[.bool n', .slice a' xs.length c'])) :=
  ⟨n', a', c', xs, rfl, hl, fin_two h.own (Nat.lt_succ_self _) (Nat.le_refl _) _ _, (h.d.fin hB x y).1, (h.d.fin hB x y).2⟩
end Go.Proofs.Ytpjckilmbidbgaa
