/- My texts Op, TrO, in this order. -/
import Derived.Test.YtlknhheafmifnaaGreatDoorPk06
import Derived.Test.YtlknhheafmifnaaGreatDoorVOpen
import Derived.ProofKit
import Derived.OpenShut
import Derived.ShutString
import Derived.ChangeOld
import Derived.Below
import Derived.WalkSmall
import Derived.Deep.Strs
import Derived.Deep.Slices
/- What the laws' arguments are read as: leaves, fractions, powers, records and lists of them. -/
namespace Go.Proofs.YtlknhheafmifnaaGreatDoor
open Go.ChangeShapes Go.WideShapes Go.ChangeAt Go.RowKit
set_option linter.unusedVariables false
set_option maxRecDepth 20000

theorem own : ownKnob Tryz.prog.godebug = none := by kernel_rfl
theorem laidOut : laidOutB Tryz.prog = true := by kernel_rfl
theorem clBig : Tryz.prog.cellsOf 24 = 2 := by kernel_rfl
theorem clU32S : Tryz.prog.cellsOf 22 = 1 := by kernel_rfl
theorem clBool : Tryz.prog.cellsOf 4 = 1 := by kernel_rfl
theorem clU32 : Tryz.prog.cellsOf 83 = 1 := by kernel_rfl
theorem clInt : Tryz.prog.cellsOf 3 = 1 := by kernel_rfl
theorem clStr : Tryz.prog.cellsOf 9 = 1 := by kernel_rfl
theorem clRat : Tryz.prog.cellsOf 26 = 4 := by kernel_rfl
theorem seg_of {W : World} {x : Addr} {l c : Nat} {zs : List Int} (hl : l ≤ c) (hm : c ≤ maxLen) (hz : zs.length = c)
    (hcell : ∀ i, i < zs.length → W.cell? (x.add i) = some (.int .u32 (zs.getD i 0))) (hwz : ∀ n ∈ zs, (Lit.int .u32 n).wf = true) :
    ∃ xs : List Nat, xs.length = l ∧ Seg W (some x) l c xs := by
  unfold maxLen at hm
  have hbd : ∀ n ∈ zs, 0 ≤ n ∧ n ≤ 4294967295 := fun n hn => by
    have := hwz n hn
    simpa [Lit.wf, IntKind.min, IntKind.max, IntKind.signed, IntKind.bits] using this
  have hlen : ((zs.map Int.toNat).take l).length = l := by simp; omega
  refine ⟨(zs.map Int.toNat).take l, hlen, hlen, hl, by omega, ?_, ?_⟩
  · intro y hy
    obtain ⟨n, hn, rfl⟩ := List.mem_map.1 (List.mem_of_mem_take hy)
    have := hbd n hn
    omega
  · by_cases h0 : l = 0
    · exact .inl h0
    obtain ⟨b, off, spot⟩ := x
    have hc := hcell 0 (by omega)
    have hspot : spot = none := by simpa [Addr.add] using World.cell?_spot hc
    subst hspot
    have hb : b < W.heap.size := by
      have hc0 : W.cell? ⟨b, off, none⟩ = some (.int .u32 (zs.getD 0 0)) := by simpa [Addr.add] using hc
      exact World.block_lt_of_cell? W ⟨b, off, none⟩ hc0
    refine .inr ⟨b, off, rfl, hb, fun j hj => ?_⟩
    have hjl : j < zs.length := by omega
    have hcj : W.cell? ⟨b, off + j, none⟩ = some (.int .u32 (zs.getD j 0)) := by
      have h1 := hcell j hjl
      by_cases hj0 : j = 0
      · subst hj0; simpa [Addr.add] using h1
      · simpa [Addr.add, hj0] using h1
    rw [hcj]
    have e : zs.getD j 0 = zs[j] := by simp [hjl]
    have := hbd zs[j] (List.getElem_mem _)
    rw [e]; simp; omega

theorem op_bool {H : Type} {enc : TypeId × Value → H} {W : World} {fuel : Nat} {c : Value} {x : DataW H × List MemPlace}
    (hf : DataW.trod enc Tryz.prog W 0 (fun _ => true) true fuel 4 [c] = some x) : ∃ b, c = .bool b := by
  cases fuel with
  | zero => simp [DataW.trod] at hf
  | succ m =>
    unfold DataW.trod at hf
    rw [Tryz.underlying4] at hf
    cases c <;> simp_all
theorem op_int {H : Type} {enc : TypeId × Value → H} {W : World} {fuel : Nat} {c : Value} {x : DataW H × List MemPlace}
    (hf : DataW.trod enc Tryz.prog W 0 (fun _ => true) true fuel 3 [c] = some x) : ∃ z : Int, c = .int .i64 z ∧ -9223372036854775808 ≤ z ∧ z ≤ 9223372036854775807 := by
  obtain ⟨z, e0, hz⟩ : ∃ z : Int, c = .int .i64 z ∧ (Lit.int .i64 z).wf = true := by
    cases fuel with
    | zero => simp [DataW.trod] at hf
    | succ m =>
      unfold DataW.trod at hf
      rw [Tryz.underlying3] at hf
      cases c <;> simp_all
  exact ⟨z, e0, by simpa [Lit.wf, IntKind.min, IntKind.max, IntKind.signed, IntKind.bits] using hz⟩
theorem op_str {H : Type} {enc : TypeId × Value → H} {W : World} {fuel : Nat} {c : Value} {x : DataW H × List MemPlace}
    (hf : DataW.trod enc Tryz.prog W 0 (fun _ => true) true fuel 9 [c] = some x) : ∃ s : ByteArray, c = .string s ∧ s.size ≤ 9223372036854775807 := by
  obtain ⟨s, e1, _, hs⟩ := DataW.trod_string Tryz.underlying9 hf
  exact ⟨s, by simpa using e1, hs⟩
theorem op_lims {H : Type} {enc : TypeId × Value → H} {W : World} {fuel : Nat} {c1 : Value} {x : DataW H × List MemPlace}
    (hf : DataW.trod enc Tryz.prog W 0 (fun _ => true) true fuel 22 [c1] = some x) : ∃ a cap xs, c1 = .slice a xs.length cap ∧ Seg W a xs.length cap xs := by
  rcases open_ints Tryz.underlying22 Tryz.underlying83 clU32 hf with ⟨hcs, _⟩ | ⟨x, l, c, zs, hcs, _, hl, hm, hz, _, hcell, hwz⟩
  · cases hcs
    exact ⟨none, 0, [], rfl, rfl, Nat.le_refl _, by omega, (fun x hx => by cases hx), Or.inl rfl⟩
  · cases hcs
    obtain ⟨xs, hxl, hs⟩ := seg_of hl hm (by simpa using hz) hcell hwz
    subst hxl
    exact ⟨some x, c, xs, rfl, hs⟩
theorem op_big {H : Type} {enc : TypeId × Value → H} {W : World} {fuel : Nat} {c0 c1 : Value} {x : DataW H × List MemPlace}
    (hf : DataW.trod enc Tryz.prog W 0 (fun _ => true) true fuel 24 [c0, c1] = some x) : ∃ neg a cap xs, c0 = .bool neg ∧ c1 = .slice a xs.length cap ∧ Seg W a xs.length cap xs := by
  obtain ⟨y0, y1, m, hx, _, hy0, hy1⟩ := trod_struct2 Tryz.underlying24 hf
  simp [clBool, clU32S] at hy0 hy1
  obtain ⟨b, rfl⟩ := op_bool hy0
  obtain ⟨a, cap, xs, rfl, s⟩ := op_lims hy1
  exact ⟨b, a, cap, xs, rfl, rfl, s⟩
theorem op_rat {H : Type} {enc : TypeId × Value → H} {W : World} {fuel : Nat} {c0 c1 c2 c3 : Value} {x : DataW H × List MemPlace}
    (hf : DataW.trod enc Tryz.prog W 0 (fun _ => true) true fuel 26 [c0, c1, c2, c3] = some x) : ∃ n a c xs m b d ys, c0 = .bool n ∧ c1 = .slice a xs.length c ∧ c2 = .bool m ∧ c3 = .slice b ys.length d ∧ Seg W a xs.length c xs ∧ Seg W b ys.length d ys := by
  obtain ⟨y0, y1, m, hx, _, hy0, hy1⟩ := trod_struct2 Tryz.underlying26 hf
  simp [clBig] at hy0 hy1
  obtain ⟨n, a, c, xs, rfl, rfl, s1⟩ := op_big hy0
  obtain ⟨m, b, d, ys, rfl, rfl, s2⟩ := op_big hy1
  exact ⟨n, a, c, xs, m, b, d, ys, rfl, rfl, rfl, rfl, s1, s2⟩
theorem rec_of_vals {W : World} {X : Nat → Prop} {g : Nat} : ∀ (r : List Lf) (vs : List Value) (o : Nat), RVal W X r vs → (∀ j (hj : j < vs.length), W.cell? ⟨g, o + j, none⟩ = some vs[j]) → Rec W X g o r
  | [], _, _, _, _ => trivial
  | f :: r, [], _, h, _ => h.elim
  | f :: r, v :: vs, o, h, hc => ⟨h.1.mk (hc 0 (by simp)), rec_of_vals r vs (o + 1) h.2 fun j hj => by
      have := hc (j + 1) (by simpa using hj)
      rw [show o + 1 + j = o + (j + 1) by omega, this]; rfl⟩
theorem rlist_of {α : Type} {n : Nat} {R : Nat → α → Prop} (h : ∀ i, i < n → ∃ x, R i x) : ∃ l : List α, l.length = n ∧ ∀ i (hi : i < l.length), R i l[i] := by
  induction n with
  | zero => exact ⟨[], rfl, fun i hi => by simp at hi⟩
  | succ n ih =>
    obtain ⟨l, hl, hr⟩ := ih (fun i hi => h i (by omega))
    obtain ⟨x, hx⟩ := h n (by omega)
    refine ⟨l ++ [x], by simp [hl], fun i hi => ?_⟩
    by_cases e : i < l.length
    · rw [List.getElem_append_left e]; exact hr i e
    · have : i = n := by simp at hi; omega
      subst this
      simp [hl]; exact hx
/-- a list of records -/
theorem open_recs {H : Type} {enc : TypeId × Value → H} {W : World} {t e : TypeId} {s : Nat} {Sh : List Lf → Prop} (ht : Tryz.prog.underlying t = some (.slice e)) (hc : Tryz.prog.cellsOf e = s) (hs0 : 0 < s)
    (hop : ∀ (fuel : Nat) (cs : List Value) (x : DataW H × List MemPlace), cs.length = s → DataW.trod enc Tryz.prog W 0 (fun _ => true) true fuel e cs = some x → ∃ r : List Lf, Sh r ∧ rwf r ∧ RVal W (fun _ => True) r cs)
    {fuel : Nat} {a0 : Option Addr} {len0 cap0 : Nat} {x : DataW H × List MemPlace} (hf : DataW.trod enc Tryz.prog W 0 (fun _ => true) true fuel t [.slice a0 len0 cap0] = some x) : ∃ rs, RSeg W (fun _ => True) s a0 len0 cap0 rs ∧ ∀ r ∈ rs, Sh r := by
  rcases Deep.open_slice ht hf with ⟨hcs, _⟩ | ⟨a, len, cap, m, n, D, Pl, hcs, _, hl, hm, hmm, _, hx⟩
  · cases hcs
    exact ⟨[], ⟨rfl, Nat.le_refl _, by omega, (fun _ h => by cases h), .inl rfl⟩, (fun _ h => by cases h)⟩
  · cases hcs
    have hmm' : m = cap0 := by rw [hmm]; simp
    unfold maxLen at hm
    by_cases h0 : len0 = 0
    · subst h0
      exact ⟨[], ⟨rfl, hl, by omega, (fun _ h => by cases h), .inl rfl⟩, (fun _ h => by cases h)⟩
    rw [hc] at hx
    have hspot : a.spot = none := by
      obtain ⟨cs, h1, _⟩ := hx 0 (by omega)
      obtain ⟨_, hlen, hcell⟩ := World.cells?_some h1
      have e0 := hcell 0 hs0
      rw [List.getElem?_eq_getElem (by omega)] at e0
      simpa [Addr.add] using World.cell?_spot e0
    obtain ⟨b, off, spot⟩ := a
    simp only at hspot
    subst hspot
    have ad : ∀ j, (⟨b, off, none⟩ : Addr).add j = ⟨b, off + j, none⟩ := by
      intro j
      unfold Addr.add
      by_cases e : j = 0 <;> simp [e]
    obtain ⟨rs, hrl, hr⟩ := rlist_of (n := len0) (R := fun i (r : List Lf) => Sh r ∧ rwf r ∧ Rec W (fun _ => True) b (off + i * s) r) (by
      intro i hi
      obtain ⟨cs, h1, h2⟩ := hx i (by omega)
      obtain ⟨_, hlen, hcell⟩ := World.cells?_some h1
      obtain ⟨r, q1, q2, q3⟩ := hop _ cs _ hlen h2
      refine ⟨r, q1, q2, rec_of_vals r cs _ q3 fun j hj => ?_⟩
      have := hcell j (by omega)
      rw [Deep.add_add, ad, List.getElem?_eq_getElem (by omega)] at this
      rw [Nat.add_assoc]; exact this)
    have hb : b < W.heap.size := by
      obtain ⟨cs, h1, _⟩ := hx 0 (by omega)
      obtain ⟨_, hlen, hcell⟩ := World.cells?_some h1
      have e0 := hcell 0 hs0
      rw [Deep.add_add, ad, List.getElem?_eq_getElem (by omega)] at e0
      exact World.block_lt_of_cell? W _ e0
    exact ⟨rs, ⟨hrl, hl, by omega, fun r h => by obtain ⟨i, hi, rfl⟩ := List.getElem_of_mem h; exact (hr i hi).2.1, .inr ⟨b, off, rfl, hb, fun j hj => (hr j hj).2.2⟩⟩, fun r h => by obtain ⟨i, hi, rfl⟩ := List.getElem_of_mem h; exact (hr i hi).1⟩
end Go.Proofs.YtlknhheafmifnaaGreatDoor

/- What a formula among the arguments is read as. -/
namespace Go.Proofs.YtlknhheafmifnaaGreatDoor
open Go.ChangeShapes Go.WideShapes Go.ChangeAt Go.RowKit
set_option linter.unusedVariables false
set_option maxRecDepth 20000

theorem clExpr : Tryz.prog.cellsOf 29 = 9 := by kernel_rfl
theorem clExprS : Tryz.prog.cellsOf 27 = 1 := by kernel_rfl
/-- nine cells that are a formula -/
def ExVals (W : World) (cs : List Value) (e : Ex) : Prop := match e with
  | .mk kd n xs m ys nm p q ks => ∃ a1 c1 a2 c2 a c, cs = [.int .i64 kd, .bool n, .slice a1 xs.length c1, .bool m, .slice a2 ys.length c2, .string nm, .int .i64 p, .int .i64 q, .slice a ks.length c] ∧ Seg W a1 xs.length c1 xs ∧ Seg W a2 ys.length c2 ys ∧ KSeg W (fun _ => True) a ks.length c ks ∧ rwf [.i kd, .b n, .l xs, .b m, .l ys, .t nm, .i p, .i q]
theorem exVals_at {W : World} {cs : List Value} {e : Ex} {g o : Nat} (h : ExVals W cs e) (hc : ∀ j (hj : j < cs.length), W.cell? ⟨g, o + j, none⟩ = some cs[j]) : ExAt W (fun _ => True) g o e := by
  obtain ⟨kd, n, xs, m, ys, nm, p, q, ks⟩ := e
  obtain ⟨a1, c1, a2, c2, a, c, rfl, s1, s2, s3, hw⟩ := h
  rw [ExAt]
  refine ⟨⟨hc 0 (by simp), hc 1 (by simp), ⟨a1, c1, hc 2 (by simp), s1, fun _ _ => trivial⟩, hc 3 (by simp), ⟨a2, c2, hc 4 (by simp), s2, fun _ _ => trivial⟩, hc 5 (by simp), hc 6 (by simp), hc 7 (by simp), trivial⟩, hw, a, c, hc 8 (by simp), ⟨s3.2.1, s3.2.2.1⟩, s3.2.2.2.1, ?_⟩
  rcases s3.2.2.2.2 with h0 | h0
  · exact .inl (List.eq_nil_of_length_eq_zero h0)
  · exact .inr h0
theorem op_ex {H : Type} {enc : TypeId × Value → H} {W : World} : ∀ (N fuel : Nat), fuel ≤ N → ∀ (cs : List Value) (x : DataW H × List MemPlace), cs.length = 9 → DataW.trod enc Tryz.prog W 0 (fun _ => true) true fuel 29 cs = some x → ∃ e, ExVals W cs e
  | 0, fuel, hN, cs, x, hl, hf => by
    obtain rfl : fuel = 0 := by omega
    simp [DataW.trod] at hf
  | N + 1, fuel, hN, cs, x, hl, hf => by
    match cs, hl with
    | [c0, c1, c2, c3, c4, c5, c6, c7, c8], _ =>
      obtain ⟨ys, n, rfl, rfl, hcl, hyl, hy⟩ := DataW.trod_struct Tryz.underlying29 hf
      match ys, hyl with
      | [y0, y1, y2, y3, y4, y5], _ =>
        have h0 := hy 0 _ rfl
        have h1 := hy 1 _ rfl
        have h2 := hy 2 _ rfl
        have h3 := hy 3 _ rfl
        have h4 := hy 4 _ rfl
        have h5 := hy 5 _ rfl
        simp [clInt, clRat, clStr, clExprS] at h0 h1 h2 h3 h4 h5
        obtain ⟨kd, rfl, k1⟩ := op_int h0
        obtain ⟨nn, a1, cc1, xs, m, a2, cc2, zs, rfl, rfl, rfl, rfl, s1, s2⟩ := op_rat h1
        obtain ⟨nm, rfl, k2⟩ := op_str h2
        obtain ⟨p, rfl, k3⟩ := op_int h3
        obtain ⟨q, rfl, k4⟩ := op_int h4
        have hw : rwf [.i kd, .b nn, .l xs, .b m, .l zs, .t nm, .i p, .i q] := by
          intro f hf
          simp only [List.mem_cons, List.not_mem_nil, or_false] at hf
          rcases hf with rfl | rfl | rfl | rfl | rfl | rfl | rfl | rfl
          · exact k1
          · trivial
          · trivial
          · trivial
          · trivial
          · exact k2
          · exact k3
          · exact k4
        obtain ⟨a, len, cap, rs, e8, hk⟩ : ∃ a len cap ks, c8 = .slice a len cap ∧ KSeg W (fun _ => True) a len cap ks := by
          rcases DataW.trod_slice Tryz.underlying27 h5 with ⟨hcs, _⟩ | ⟨a, len, cap, elems, rest, n', rfl, hcs, _, _, hle, hmx, hel, hb, _⟩
          · exact ⟨none, 0, 0, [], by simpa using hcs, rfl, Nat.le_refl _, by omega, fun _ _ => trivial, .inl rfl⟩
          · unfold maxLen at hmx
            by_cases hz : len = 0
            · subst hz
              exact ⟨some a, 0, cap, [], by simpa using hcs, rfl, hle, by omega, fun _ _ => trivial, .inl rfl⟩
            rw [clExpr] at hb
            have hget : ∀ i, i < len → ∃ cs', W.cells? 0 (a.add (i * 9)) 9 = some cs' ∧ ∃ y, DataW.trod enc Tryz.prog W 0 (fun _ => true) true n' 29 cs' = some y := by
              intro i hi
              have := hb i hi
              rw [List.getElem?_eq_getElem (by omega)] at this
              obtain ⟨cs', q1, q2⟩ := Option.bind_eq_some_iff.1 this
              exact ⟨cs', q1, _, q2⟩
            have hspot : a.spot = none := by
              obtain ⟨cs', q1, _⟩ := hget 0 (by omega)
              obtain ⟨_, hlen, hcell⟩ := World.cells?_some q1
              have e0 := hcell 0 (by omega)
              rw [List.getElem?_eq_getElem (by omega)] at e0
              simpa [Addr.add] using World.cell?_spot e0
            obtain ⟨b, off, spot⟩ := a
            simp only at hspot
            subst hspot
            have ad : ∀ j, (⟨b, off, none⟩ : Addr).add j = ⟨b, off + j, none⟩ := by
              intro j
              unfold Addr.add
              by_cases e : j = 0 <;> simp [e]
            obtain ⟨rs, hrl, hr⟩ := rlist_of (n := len) (R := fun i (r : Ex) => ExAt W (fun _ => True) b (off + i * 9) r) (by
              intro i hi
              obtain ⟨cs', q1, y, q2⟩ := hget i hi
              obtain ⟨_, hlen, hcell⟩ := World.cells?_some q1
              obtain ⟨e, he⟩ := op_ex N n' (by omega) cs' y hlen q2
              refine ⟨e, exVals_at he fun j hj => ?_⟩
              have := hcell j (by omega)
              rw [Deep.add_add, ad, List.getElem?_eq_getElem (by omega)] at this
              rw [Nat.add_assoc]; exact this)
            have hbl : b < W.heap.size := by
              obtain ⟨cs', q1, _⟩ := hget 0 (by omega)
              obtain ⟨_, hlen, hcell⟩ := World.cells?_some q1
              have e0 := hcell 0 (by omega)
              rw [Deep.add_add, ad, List.getElem?_eq_getElem (by omega)] at e0
              exact World.block_lt_of_cell? W _ e0
            exact ⟨some ⟨b, off, none⟩, len, cap, rs, by simpa using hcs, hrl, hle, by omega, fun _ _ => trivial, .inr ⟨b, off, rfl, hbl, KsAt.mk fun j hj => hr j hj⟩⟩
        subst e8
        obtain rfl := hk.1
        exact ⟨.mk kd nn xs m zs nm p q rs, a1, cc1, a2, cc2, a, cap, rfl, s1, s2, hk, hw⟩
theorem open_expr {H : Type} {enc : TypeId × Value → H} {W : World} {base : Nat} {v : Value} {d : DataW H} {pl : List MemPlace} (hv : Value.okWide Tryz.prog W .any base 29 v)
    (h : DataW.Trod enc Tryz.prog W 0 (fun _ => true) true 29 v d pl) : ∃ kd n xs m ys nm p q ks a1 c1 a2 c2 a c, v = .agg #[.int .i64 kd, .bool n, .slice a1 xs.length c1, .bool m, .slice a2 ys.length c2, .string nm, .int .i64 p, .int .i64 q, .slice a ks.length c] ∧ Seg W a1 xs.length c1 xs ∧ Seg W a2 ys.length c2 ys ∧ KSeg W (fun _ => True) a ks.length c ks ∧ rwf [.i kd, .b n, .l xs, .b m, .l ys, .t nm, .i p, .i q] := by
  obtain ⟨cs, rfl, hsz⟩ := okWide_struct Tryz.underlying29 hv
  rw [clExpr] at hsz
  obtain ⟨l⟩ := cs
  obtain ⟨fuel, hf⟩ := h
  obtain ⟨e, he⟩ := op_ex fuel fuel (Nat.le_refl _) l _ (by simpa using hsz) (by simpa [Value.cells] using hf)
  obtain ⟨kd, n, xs, m, ys, nm, p, q, ks⟩ := e
  obtain ⟨a1, c1, a2, c2, a, c, rfl, s1, s2, s3, hw⟩ := he
  exact ⟨kd, n, xs, m, ys, nm, p, q, ks, a1, c1, a2, c2, a, c, rfl, s1, s2, s3, hw⟩
end Go.Proofs.YtlknhheafmifnaaGreatDoor
