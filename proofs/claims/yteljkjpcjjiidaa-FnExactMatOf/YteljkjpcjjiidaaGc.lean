/- A row of ints that is known whole, and a copy into it. -/
import Derived.Test.YteljkjpcjjiidaaGi
import Derived.Laws.CopyOwn
namespace Go.Proofs.Yteljkjpcjjiidaa
open Go.RowKit
set_option linter.unusedVariables false
set_option maxRecDepth 20000

/-- rows, one behind the other -/
def cat (E : Nat → List Int) : Nat → List Int
  | 0 => []
  | k + 1 => cat E k ++ E k
theorem cat_len (E : Nat → List Int) (c : Nat) : ∀ k, (∀ r, r < k → (E r).length = c) → (cat E k).length = k * c
  | 0, _ => by simp [cat]
  | k + 1, h => by
    have h1 := cat_len E c k (fun r hr => h r (by omega))
    have h2 := h k (by omega)
    rw [Nat.succ_mul]
    simp only [cat, List.length_append]; omega
theorem cat_at (E : Nat → List Int) (c : Nat) : ∀ n, (∀ r, r < n → (E r).length = c) → ∀ r j, r < n → j < c → (cat E n).getD (r * c + j) 0 = (E r).getD j 0
  | 0, _, r, j, hr, _ => by omega
  | n + 1, h, r, j, hr, hj => by
    have hl := cat_len E c n (fun r hr => h r (by omega))
    by_cases e : r = n
    · subst e
      simp only [cat, List.getD_eq_getElem?_getD]
      rw [List.getElem?_append_right (by omega), hl, Nat.add_sub_cancel_left]
    · have h2 := cat_at E c n (fun r hr => h r (by omega)) r j (by omega) hj
      have h3 : r * c + j < n * c := by
        have : (r + 1) * c ≤ n * c := Nat.mul_le_mul_right c (by omega)
        rw [Nat.succ_mul] at this; omega
      simp only [cat, List.getD_eq_getElem?_getD] at h2 ⊢
      rw [List.getElem?_append_left (by omega)]; exact h2
/-- what is laid so far, noughts behind it -/
def fl (E : Nat → List Int) (N c k : Nat) : List Int := cat E k ++ List.replicate (N - k * c) 0
theorem fl_zero (E : Nat → List Int) (N c : Nat) : fl E N c 0 = List.replicate N 0 := by simp [fl, cat]
theorem fl_len {E : Nat → List Int} {N c k : Nat} (h : ∀ r, r < k → (E r).length = c) (hk : k * c ≤ N) : (fl E N c k).length = N := by
  simp only [fl, List.length_append, List.length_replicate, cat_len E c k h]; omega
theorem fl_step {E : Nat → List Int} {N c k : Nat} (h : ∀ r, r < k → (E r).length = c) (hk : (E k).length = c) : (fl E N c k).take (k * c) ++ (E k ++ (fl E N c k).drop (k * c + c)) = fl E N c (k + 1) := by
  have hl := cat_len E c k h
  unfold fl
  rw [List.take_append_of_le_length (by omega), List.take_of_length_le (by omega)]
  rw [List.drop_append, List.drop_eq_nil_of_le (by omega), List.nil_append, hl, Nat.add_sub_cancel_left, List.drop_replicate, Nat.succ_mul]
  simp only [cat, List.append_assoc]
  rw [show N - k * c - c = N - (k * c + c) by omega]
theorem fl_all (E : Nat → List Int) (n c : Nat) : fl E (n * c) c n = cat E n := by simp [fl]

theorem vown_entry {W : World} {lo g n : Nat} {xs : List Int} (h : V.Own W lo (some ⟨g, 0, none⟩) n n xs) : W.heap[g]? = some (.cells (xs.map V.lim).toArray 3 (0, 0)) := by
  rcases h.2 with ⟨h1, _⟩ | ⟨g', cap', cur, hv, hg, hh, hn, hc, hs, ht⟩
  · cases h1
  · cases hv
    rw [hh, ← ht, List.take_of_length_le (by rw [Array.length_toList]; omega)]
theorem entry_vown {W : World} {lo g n : Nat} {xs : List Int} (h : W.heap[g]? = some (.cells (xs.map V.lim).toArray 3 (0, 0))) (hl : xs.length = n) (hn : n ≤ maxLen) (h0 : lo ≤ g) : V.Own W lo (some ⟨g, 0, none⟩) n n xs := by
  refine ⟨by simp [hl], .inr ⟨g, n, _, rfl, h0, h, Nat.le_refl _, hn, by simp [hl], ?_⟩⟩
  rw [List.take_of_length_le (by simp [hl])]
theorem sz3 : (Try.prog.info? 3).map (·.size) = some 1 := by kernel_rfl
theorem chg_row (w : World) (g : Nat) (cs : Array Value) : Chg (fun k => k = g) w (w.setRow g cs) := ⟨rfl, rfl, rfl, by simp [World.setRow], fun k _ hn => setRow_other w g k cs hn⟩

theorem wp_copy_row {w : World} {ops : Array Oper} {rest : List Oper} {o : Oper} {a : Act} {Q : Exit → Act → World → Prop} (hgd : o.guard = none) (d s : Operand)
    (ho : o.op = .call { callee := .builtin .copy, args := #[d, s], argTypes := #[59, 59] }) (dp sp : Option Addr) (c c1 c2 : Nat) (hd : a.eval d = .slice dp c c1) (hs : a.eval s = .slice sp c c2)
    (g off : Nat) (L ys : List Int) (hg : w.heap[g]? = some (.cells (L.map V.lim).toArray 3 (0, 0))) (hseg : V.Seg w sp c c2 ys) (hrow : RowAt g off c dp) (hfit : off + c ≤ L.length)
    (h : ∀ w', Hid (w'.heap[g]? = some (.cells ((L.take off ++ (ys ++ L.drop (off + c))).map V.lim).toArray 3 (0, 0))) → Chg (fun k => k = g) w w' → wpList Try.prog ops Q rest (a.put o.dst (goInt c)) w') :
    wpList Try.prog ops Q (o :: rest) a w := by
  have hl := hseg.1
  by_cases h0 : c = 0
  · subst h0
    obtain rfl : ys = [] := List.eq_nil_of_length_eq_zero hl
    refine wpList_copy_nothing hgd d s _ _ ho 3 Try.underlying59 sz3 dp sp _ _ _ _ hd hs rfl ?_
    exact h w (hide (by rw [hg]; simp)) (Chg.refl _ _)
  · obtain rfl := hrow h0
    obtain ⟨_, _, _, hc⟩ := hseg
    rcases hc with hc | ⟨g2, o2, rfl, hg2, hc⟩
    · omega
    refine wpList_copy_own hgd d s _ _ ho 3 Try.underlying59 sz3 g off c c1 ⟨g2, o2, none⟩ c c2 hd hs _ _ hg (ys.map V.lim) (by simp [hl]) (fun j v hv => ?_) (by simp [hl]; omega) (V.one_lims ys) ?_
    · have hj : j < ys.length := by have := (List.getElem?_eq_some_iff.1 hv).1; simpa using this
      have hv' : v = .int .i64 ys[j] := by
        have := (List.getElem?_eq_some_iff.1 hv).2
        simp [V.lim] at this; exact this.symm
      rw [hv', Addr.add_lit]
      exact hc j hj
    · have e1 : (ys.map V.lim).length = c := by simp [hl]
      rw [e1]
      refine h _ (hide ?_) (chg_row w g _)
      rw [setRow_heap w g _ _ _ _ hg]
      simp [List.map_take, List.map_drop]
end Go.Proofs.Yteljkjpcjjiidaa
