/- The walks of bigSum and bigDifference: the sum of two numbers of any size, in new memory. -/
import Derived.Test.YtgoblagpnioflaaDoorAddI
import Derived.Laws.CopyOwn
namespace Go.Proofs.YtgoblagpnioflaaDoor
open Go.RowKit
set_option linter.unusedVariables false

theorem lims_at {xs : List Nat} {j : Nat} {u : Value} (h : (xs.map lim)[j]? = some u) : ∃ hj : j < xs.length, u = .int .u32 xs[j] := by
  have hj : j < xs.length := by have := (List.getElem?_eq_some_iff.1 h).1; simpa using this
  exact ⟨hj, by have := (List.getElem?_eq_some_iff.1 h).2; simp [lim] at this; exact this.symm⟩
theorem seg_low {W : World} {b : Option Addr} {m cb : Nat} {ps : List Nat} (h : Seg W b m cb ps) (hm : 0 < m) {gb ob : Nat} {s : Option Nat} (e : b = some ⟨gb, ob, s⟩) : gb < W.heap.size := by
  rcases h.2.2.2.2 with h0 | ⟨g, o, ha, hg, _⟩
  · omega
  · rw [ha] at e; cases e; exact hg
theorem sum_val0 {t : Bool} {X Y nz c B D : Nat} (hX : X < B) (hBD : 2 * B ≤ D) (hXY : Y ≤ X) (hz : nz < D) (h3 : c = 0 ∨ c = 1) (h4 : if t = true then nz + Y + D * c = X + D else nz + D * c = X + Y) : nz = if t = true then X - Y else X + Y := by
  cases t with
  | false =>
    rw [if_neg (by simp)] at h4 ⊢
    rcases h3 with rfl | rfl
    · rw [Nat.mul_zero] at h4; omega
    · rw [Nat.mul_one] at h4; omega
  | true =>
    rw [if_pos rfl] at h4 ⊢
    rcases h3 with rfl | rfl
    · rw [Nat.mul_zero] at h4; omega
    · rw [Nat.mul_one] at h4; omega
theorem pw_two (n : Nat) : 2 * 4294967296 ^ n ≤ 4294967296 ^ (n + 1) := by
  rw [Nat.pow_succ, Nat.mul_comm]; exact Nat.mul_le_mul_left _ (by decide)
theorem zero_or_one {c : Nat} (h : c ≤ 1) : c = 0 ∨ c = 1 := by omega
theorem nat_snoc0 (xs : List Nat) : Num.nat (xs ++ [0]) = Num.nat xs := by
  rw [Num.nat_append, show Num.nat [0] = 0 from rfl, Nat.mul_zero, Nat.add_zero]
theorem rep_drop (n : Nat) : (List.replicate (n + 1) 0).drop n = [0] := by
  rw [List.drop_replicate, Nat.add_sub_cancel_left]; rfl
theorem sum_val {t : Bool} {X Y : Nat} {zs : List Nat} {c : Nat} (h : Sofar t (((Num.limbs X ++ (List.replicate ((Num.limbs X).length + 1) 0).drop (Num.limbs X).length).drop 0).take ((Num.limbs X).length + 1)) (Num.limbs Y) zs ((Num.limbs X).length + 1) c) (hXY : Y ≤ X) :
    Num.nat zs = if t = true then X - Y else X + Y := by
  obtain ⟨h1, h2, h3, h4⟩ := h
  have hX : X < 4294967296 ^ (Num.limbs X).length := Num.limbs_len.1 (Nat.le_refl _)
  have hYl : (Num.limbs Y).length ≤ (Num.limbs X).length := Num.limbs_len.2 (Nat.lt_of_le_of_lt hXY hX)
  have hz := Num.nat_lt h2
  rw [h1] at hz
  have e1 : (Num.limbs X ++ [0]).take ((Num.limbs X).length + 1) = Num.limbs X ++ [0] := List.take_of_length_le (by rw [List.length_append]; exact Nat.le_refl _)
  rw [rep_drop, List.drop_zero, e1, e1, List.take_of_length_le (Nat.le_succ_of_le hYl), nat_snoc0, Num.nat_limbs, Num.nat_limbs] at h4
  exact sum_val0 hX (pw_two _) hXY hz (zero_or_one h3) h4
theorem sum_own {W : World} {g n base : Nat} {X zs : List Nat} (hB : Blk W g ((X ++ (List.replicate (X.length + 1) 0).drop X.length).take 0 ++ zs ++ (X ++ (List.replicate (X.length + 1) 0).drop X.length).drop (0 + n))) (hz : zs.length = n) (hn : n = X.length + 1) (hb : base ≤ g) (hm : n ≤ 9223372036854775807) : Own W base (some ⟨g, 0, none⟩) n n zs := by
  have e : (X ++ (List.replicate (X.length + 1) 0).drop X.length).take 0 ++ zs ++ (X ++ (List.replicate (X.length + 1) 0).drop X.length).drop (0 + n) = zs := by
    rw [rep_drop, List.drop_eq_nil_of_le (by simp; omega)]; simp
  rw [e] at hB
  subst hz
  exact hB.own hb hm
theorem sum_sign (n1 n2 : Bool) (x y : Nat) (h : y ≤ x) : mk n1 (if (!n1 == n2) = true then x - y else x + y) = mk n1 x + mk n2 y := by
  cases n1 <;> cases n2 <;> simp [mk] <;> omega
theorem sum_sign2 (n1 n2 : Bool) (x y : Nat) (h : x ≤ y) : mk n2 (if (!n2 == n1) = true then y - x else y + x) = mk n1 x + mk n2 y := by
  cases n1 <;> cases n2 <;> simp [mk] <;> omega
theorem own_made2 {W : World} {base : Nat} {a : Option Addr} {n : Nat} (h : W.ownsRow base 37 1 (.slice a n n) n (madeCells (Value.int IntKind.u32 0).cells (n * 1)).toList) : Own W base a n n (List.replicate n 0) := by
  rw [Nat.mul_one] at h; exact own_made h
theorem Tryd.size37 : (Tryd.prog.info? 37).map (·.size) = some 1 := by kernel_rfl
/-- a copy of limbs into the head of a block -/
theorem wpList_copy_lim {P : Program} {w : World} {ops : Array Oper} {rest : List Oper} {o : Oper} {a : Act} {Q : Exit → Act → World → Prop} (hgd : o.guard = none) (d s : Operand) (dT sT : TypeId)
    (ho : o.op = .call { callee := .builtin .copy, args := #[d, s], argTypes := #[dT, sT] }) (hu : P.underlying dT = some (.slice 37)) (hsz : (P.info? 37).map (·.size) = some 1)
    (g dLen dCap : Nat) (b : Option Addr) (n cb : Nat) (hd : a.eval d = .slice (some ⟨g, 0, none⟩) dLen dCap) (hs : a.eval s = .slice b n cb)
    (ys xs : List Nat) (hB : Blk w g ys) (hl : ys.length = dLen) (hS : Seg w b n cb xs) (hn : n ≤ dLen)
    (h : ∀ w', Blk w' g (xs ++ ys.drop n) → w.grownBy w' (some g) → wpList P ops Q rest (a.put o.dst (goInt n)) w') : wpList P ops Q (o :: rest) a w := by
  have hx := hS.1
  rcases hS.2.2.2.2 with h0 | ⟨g', o', rfl, hg', hc⟩
  · subst h0
    refine wpList_copy_nothing hgd d s dT sT ho 37 hu hsz _ _ _ _ _ _ hd hs (by simp) (h w ?_ ⟨rfl, rfl, rfl, Nat.le_refl _, fun _ _ _ => rfl⟩)
    have : xs = [] := List.eq_nil_of_length_eq_zero hx
    subst this
    simpa using hB
  · have e : ((ys.map lim).toArray.toList.take 0 ++ (xs.map lim ++ (ys.map lim).toArray.toList.drop (0 + (xs.map lim).length))).toArray = ((xs ++ ys.drop n).map lim).toArray := by
      simp [hx]
    have hk : Blk (w.setRow g ((xs ++ ys.drop n).map lim).toArray) g (xs ++ ys.drop n) := ⟨setRow_heap w g _ _ 37 (0, 0) hB.1, Num.small_append hS.2.2.2.1 (Num.small_drop hB.2 n)⟩
    have hgr : w.grownBy (w.setRow g ((xs ++ ys.drop n).map lim).toArray) (some g) := ⟨rfl, rfl, rfl, by simp [World.setRow], fun k hk hne => setRow_other w g k _ (fun e => hne (by rw [e]))⟩
    have hfin := h _ hk hgr
    have hmin : (xs.map lim).length = Nat.min n dLen := by rw [List.length_map, hx]; exact (Nat.min_eq_left hn).symm
    refine wpList_copy_own hgd d s dT sT ho 37 hu hsz g 0 dLen dCap ⟨g', o', none⟩ n cb hd hs _ 37 hB.1 (xs.map lim) hmin ?_ ?_ (one_lims xs) ?_
    · intro j v hv
      obtain ⟨hj, rfl⟩ := lims_at hv
      rw [Addr.add_lit]; exact hc j hj
    · simp; omega
    · rw [e, List.length_map, hx]; exact hfin

end Go.Proofs.YtgoblagpnioflaaDoor
