/- nat.divideLong. -/
import Derived.Test.YtijifpbpjinmhaaGreatDoorGcdMath
import Derived.Test.YtijifpbpjinmhaaGreatDoorGuess
import Derived.Test.YtijifpbpjinmhaaGreatDoorMany
import Derived.Test.YtijifpbpjinmhaaGreatDoorBigOf
import Derived.Deep.RegionHeld3
namespace Cub
theorem lval_cut (B : Nat) (l : List Nat) (k : Nat) (hk : k ≤ l.length) : lval B l = lval B (l.take k) + B ^ k * lval B (l.drop k) := by
  have e := lval_append B (l.take k) (l.drop k)
  rw [List.take_append_drop, List.length_take, Nat.min_eq_left hk] at e
  exact e
/-- Where the number is small the limbs above are noughts. -/
theorem drop_none {B : Nat} {l : List Nat} {k : Nat} (hk : k ≤ l.length) (h : lval B l < B ^ k) : lval B (l.drop k) = 0 ∧ lval B (l.take k) = lval B l := by
  have e := lval_cut B l k hk
  have h0 : lval B (l.drop k) = 0 := by
    rcases Nat.eq_zero_or_pos (lval B (l.drop k)) with h1 | h1
    · exact h1
    · have : B ^ k * 1 ≤ B ^ k * lval B (l.drop k) := Nat.mul_le_mul_left _ h1
      omega
  rw [h0, Nat.mul_zero] at e
  exact ⟨h0, by omega⟩
theorem limbs_take {B : Nat} {l : List Nat} (h : limbs B l) (k : Nat) : limbs B (l.take k) := fun x hx => h x (List.mem_of_mem_take hx)
theorem limbs_drop {B : Nat} {l : List Nat} (h : limbs B l) (k : Nat) : limbs B (l.drop k) := fun x hx => h x (List.mem_of_mem_drop hx)
/-- How far the division has come: from place j on the digits are found. -/
structure LongInv (M Y nr nd : Nat) (R D : List Nat) (j : Nat) : Prop where
  lenR : R.length = nr
  lenD : D.length = nd
  limR : limbs 1000000000 R
  limD : limbs 1000000000 D
  low : ∀ k, k < j → D.getD k 0 = 0
  sum : lval 1000000000 R + Y * lval 1000000000 D = M
  lt : lval 1000000000 R < Y * 1000000000 ^ j
/-- The window at a place: its number, and the digit that belongs there. -/
theorem LongInv.window {M Y nr nd nc : Nat} {R D : List Nat} {t : Nat} (h : LongInv M Y nr nd R D (t + 1)) (hY : Y < 1000000000 ^ nc) (hy : 0 < Y) (ht : t + nc + 1 ≤ nr) :
    lval 1000000000 ((R.drop t).take (nc + 1)) = lval 1000000000 (R.drop t) ∧ lval 1000000000 ((R.drop t).take (nc + 1)) / Y < 1000000000 ∧ lval 1000000000 (R.drop (t + nc + 1)) = 0 := by
  have hl : R.length = nr := h.lenR
  have e := lval_cut 1000000000 R t (by omega)
  have h1 := h.lt
  have hW : lval 1000000000 (R.drop t) < Y * 1000000000 := by
    apply Decidable.byContradiction
    intro hc
    have h2 : 1000000000 ^ t * (Y * 1000000000) ≤ 1000000000 ^ t * lval 1000000000 (R.drop t) := Nat.mul_le_mul_left _ (by omega)
    have h3 : 1000000000 ^ t * (Y * 1000000000) = Y * 1000000000 ^ (t + 1) := by rw [Nat.pow_succ, Nat.mul_left_comm]
    omega
  have hW2 : lval 1000000000 (R.drop t) < 1000000000 ^ (nc + 1) := by
    rw [Nat.pow_succ]
    exact Nat.lt_of_lt_of_le hW (Nat.mul_le_mul_right _ (Nat.le_of_lt hY))
  obtain ⟨d1, d2⟩ := drop_none (by rw [List.length_drop]; omega) hW2
  refine ⟨d2, ?_, ?_⟩
  · rw [d2, Nat.div_lt_iff_lt_mul hy, Nat.mul_comm]; exact hW
  · rw [List.drop_drop] at d1; rw [Nat.add_assoc]; exact d1
/-- One digit more. -/
theorem LongInv.step {M Y nr nd nc : Nat} {R D F : List Nat} {t q : Nat} (h : LongInv M Y nr nd R D (t + 1)) (hY : Y < 1000000000 ^ nc) (hy : 0 < Y) (ht : t + nc + 1 ≤ nr) (htd : t < nd)
    (hF : F.length = nc + 1) (hlF : limbs 1000000000 F) (hv : lval 1000000000 F + q * Y = lval 1000000000 ((R.drop t).take (nc + 1))) (hq : q = lval 1000000000 ((R.drop t).take (nc + 1)) / Y) :
    LongInv M Y nr nd (R.take t ++ (F ++ R.drop (t + nc + 1))) (D.set t q) t := by
  obtain ⟨w1, w2, w3⟩ := h.window hY hy ht
  have hl : R.length = nr := h.lenR
  have hqB : q < 1000000000 := by rw [hq]; exact w2
  have hFY : lval 1000000000 F < Y := by
    have h1 := Nat.div_add_mod (lval 1000000000 ((R.drop t).take (nc + 1))) Y
    have h2 := Nat.mod_lt (lval 1000000000 ((R.drop t).take (nc + 1))) hy
    rw [← hq, Nat.mul_comm] at h1
    omega
  have eR := lval_cut 1000000000 R t (by omega)
  have eN : lval 1000000000 (R.take t ++ (F ++ R.drop (t + nc + 1))) = lval 1000000000 (R.take t) + 1000000000 ^ t * lval 1000000000 F := by
    rw [lval_append, lval_append, w3, Nat.mul_zero, Nat.add_zero, List.length_take, Nat.min_eq_left (by omega)]
  have eD := lval_set 1000000000 D t q (by rw [h.lenD]; exact htd)
  have hD0 : D[t]'(by rw [h.lenD]; exact htd) = 0 := by
    have := h.low t (by omega)
    rw [List.getD_eq_getElem?_getD, List.getElem?_eq_getElem (by rw [h.lenD]; exact htd)] at this
    simpa using this
  rw [hD0, Nat.mul_zero, Nat.add_zero] at eD
  refine ⟨?_, by rw [List.length_set]; exact h.lenD, limbs_append.2 ⟨limbs_take h.limR _, limbs_append.2 ⟨hlF, limbs_drop h.limR _⟩⟩, limbs_set h.limD _ _ hqB, fun k hk => ?_, ?_, ?_⟩
  · simp [List.length_take, List.length_drop]; omega
  · have := h.low k (by omega)
    rw [List.getD_eq_getElem?_getD] at this ⊢
    rw [List.getElem?_set_ne (by omega)]; exact this
  · have hs := h.sum
    rw [eN, eD, ← hs, eR, ← w1, ← hv, Nat.mul_add, Nat.mul_add]
    have m1 : Y * (1000000000 ^ t * q) = 1000000000 ^ t * (q * Y) := by rw [Nat.mul_left_comm, Nat.mul_comm Y q]
    omega
  · rw [eN]
    have h1 : lval 1000000000 (R.take t) < 1000000000 ^ t := by
      have := lval_lt (limbs_take h.limR t)
      rwa [List.length_take, Nat.min_eq_left (by omega)] at this
    have h2 : 1000000000 ^ t * (lval 1000000000 F + 1) ≤ 1000000000 ^ t * Y := Nat.mul_le_mul_left _ hFY
    rw [Nat.mul_add, Nat.mul_one] at h2
    rw [Nat.mul_comm Y]
    omega
theorem LongInv.last {M Y nr nd : Nat} {R D : List Nat} (h : LongInv M Y nr nd R D 0) (_hy : 0 < Y) : lval 1000000000 D = M / Y ∧ lval 1000000000 R = M % Y := by
  have h1 := h.sum
  have h2 := h.lt
  rw [Nat.pow_zero, Nat.mul_one] at h2
  rw [← h1]
  refine ⟨?_, ?_⟩
  · rw [Nat.add_mul_div_left _ _ (by omega), Nat.div_eq_of_lt h2, Nat.zero_add]
  · rw [Nat.add_mul_mod_self_left, Nat.mod_eq_of_lt h2]
/-- The first guess is not too few. -/
theorem guess_bound {nc : Nat} {W Y : List Nat} {q : Nat} (hn : 2 ≤ nc) (hW : W.length = nc + 1) (hY : Y.length = nc) (hlW : limbs 1000000000 W) (_hlY : limbs 1000000000 Y) (hq : q * lval 1000000000 Y ≤ lval 1000000000 W) :
    q * Y.getD (nc - 1) 0 ≤ W.getD nc 0 * 1000000000 + W.getD (nc - 1) 0 ∧
    q * (Y.getD (nc - 1) 0 * 1000000000 + Y.getD (nc - 2) 0) ≤ (W.getD nc 0 * 1000000000 + W.getD (nc - 1) 0) * 1000000000 + W.getD (nc - 2) 0 := by
  obtain ⟨p, rfl⟩ : ∃ p, nc = p + 2 := ⟨nc - 2, by omega⟩
  rw [show p + 2 - 1 = p + 1 by omega, show p + 2 - 2 = p by omega]
  have cut2 (l : List Nat) (k : Nat) (hk : l.length = p + k) : lval 1000000000 l = lval 1000000000 (l.take p) + 1000000000 ^ p * lval 1000000000 (l.drop p) := lval_cut 1000000000 l p (by omega)
  have dW : lval 1000000000 (W.drop p) = W.getD p 0 + 1000000000 * (W.getD (p + 1) 0 + 1000000000 * W.getD (p + 2) 0) := by
    rw [List.drop_eq_getElem_cons (show p < W.length by omega), List.drop_eq_getElem_cons (show p + 1 < W.length by omega), List.drop_eq_getElem_cons (show p + 1 + 1 < W.length by omega), List.drop_of_length_le (by omega)]
    simp [lval, List.getD, show p < W.length by omega, show p + 1 < W.length by omega, show p + 2 < W.length by omega]
  have dY : lval 1000000000 (Y.drop p) = Y.getD p 0 + 1000000000 * Y.getD (p + 1) 0 := by
    rw [List.drop_eq_getElem_cons (show p < Y.length by omega), List.drop_eq_getElem_cons (show p + 1 < Y.length by omega), List.drop_of_length_le (by omega)]
    simp [lval, List.getD, show p < Y.length by omega, show p + 1 < Y.length by omega]
  have cW := cut2 W 3 hW
  have cY := cut2 Y 2 hY
  have tW : lval 1000000000 (W.take p) < 1000000000 ^ p := by
    have := lval_lt (limbs_take hlW p)
    rwa [List.length_take, Nat.min_eq_left (by omega)] at this
  have ha0 : W.getD p 0 < 1000000000 := by
    rw [List.getD_eq_getElem?_getD, List.getElem?_eq_getElem (show p < W.length by omega)]
    exact hlW _ (List.getElem_mem _)
  generalize W.getD p 0 = a0 at *
  generalize W.getD (p + 1) 0 = a1 at *
  generalize W.getD (p + 2) 0 = a2 at *
  generalize Y.getD p 0 = b0 at *
  generalize Y.getD (p + 1) 0 = b1 at *
  have key : q * (b0 + 1000000000 * b1) ≤ a0 + 1000000000 * (a1 + 1000000000 * a2) := by
    apply Decidable.byContradiction
    intro hc
    have h1 : 1000000000 ^ p * (a0 + 1000000000 * (a1 + 1000000000 * a2) + 1) ≤ 1000000000 ^ p * (q * (b0 + 1000000000 * b1)) := Nat.mul_le_mul_left _ (by omega)
    have h2 : 1000000000 ^ p * (q * (b0 + 1000000000 * b1)) ≤ q * lval 1000000000 Y := by
      rw [cY, dY, Nat.mul_left_comm]
      exact Nat.mul_le_mul_left _ (Nat.le_add_left _ _)
    rw [dW] at cW
    rw [Nat.mul_add (1000000000 ^ p) _ 1] at h1
    omega
  have e1 : q * (b0 + 1000000000 * b1) = q * b0 + 1000000000 * (q * b1) := by rw [Nat.mul_add, Nat.mul_left_comm]
  have e2 : q * (b1 * 1000000000 + b0) = q * b0 + 1000000000 * (q * b1) := by rw [← e1]; congr 1; omega
  rw [e2]
  rw [e1] at key
  generalize q * b1 = u at *
  generalize q * b0 = v at *
  exact ⟨by omega, by omega⟩
end Cub
namespace Go
open Go.RowKit in
theorem wpList_copy_far {P : Program} {w : World} {ops : Array Oper} {rest : List Oper} {o : Oper} {a : Act} {Q : Exit → Act → World → Prop} (hgd : o.guard = none) (d s : Operand) (dT sT : TypeId)
    (ho : o.op = .call { callee := .builtin .copy, args := #[d, s], argTypes := #[dT, sT] }) (elem : TypeId) (hu : P.underlying dT = some (.slice elem)) (hsz : (P.info? elem).map (·.size) = some 1)
    (dp sp : Option Addr) (dLen dCap sLen sCap : Nat) (hd : a.eval d = .slice dp dLen dCap) (hs : a.eval s = .slice sp sLen sCap)
    (g off : Nat) (cur : List Value) (t : TypeId) (hg : w.heap[g]? = some (.cells cur.toArray t (0, 0))) (cs : List Value) (hn : cs.length = Nat.min sLen dLen)
    (hpos : 0 < cs.length → dp = some ⟨g, off, none⟩ ∧ ∃ ad, sp = some ad ∧ ∀ j v, cs[j]? = some v → w.cell? (ad.add j) = some v)
    (hfit : off + cs.length ≤ cur.length) (h1 : ∀ v ∈ cs, v.oneCell' = true)
    (h : ∀ w', Hid (w'.heap[g]? = some (.cells (splice cur off cs).toArray t (0, 0))) → Hid (Below g w w' ∧ ∀ k, k ≠ g → w'.heap[k]? = w.heap[k]?) → wpList P ops Q rest (a.put o.dst (goInt cs.length)) w') :
    wpList P ops Q (o :: rest) a w := by
  by_cases h0 : cs.length = 0
  · obtain rfl : cs = [] := List.eq_nil_of_length_eq_zero h0
    refine wpList_copy_nothing hgd d s dT sT ho elem hu hsz dp sp dLen dCap sLen sCap hd hs (by simpa using hn.symm) ?_
    exact h w (show _ = _ by simpa [splice] using hg) ⟨Below.refl _ _, fun _ _ => rfl⟩
  · obtain ⟨rfl, ad, rfl, hsrc⟩ := hpos (by omega)
    refine wpList_copy_own hgd d s dT sT ho elem hu hsz g off dLen dCap ad sLen sCap hd hs cur.toArray t hg cs hn hsrc (by simpa using hfit) h1 ?_
    exact h _ (show _ = _ by simpa [splice] using setRow_heap w g _ _ t _ hg) ⟨below_setRow (Below.refl _ _) (Nat.le_refl _) _, fun k hk => setRow_other w g k _ hk⟩
end Go
namespace Go.Proofs.YtijifpbpjinmhaaGreatDoor
open Go.RowKit
theorem Own.setOther {w : World} {g : Nat} {l : List Nat} {p : Addr} {v : Value} (h : Own w g l) (hne : p.block ≠ g) : Own (w.setCell p v) g l := by
  unfold Own at h ⊢
  simp only [World.setCell, Array.getElem?_modify, h]
  simp [hne]
/-- What stands in the long division: blocks below that of the rest as they were, the rest, the digits, the window. -/
structure LongSt (w2 wr : World) (gd gn : Nat) (R D N : List Nat) : Prop where
  old : Below w2.heap.size w2 wr
  rest : Own wr w2.heap.size R
  digs : Own wr gd D
  win : Own wr gn N
theorem LongSt.later {w2 wr wr' : World} {gd gn : Nat} {R D N : List Nat} (h : LongSt w2 wr gd gn R D N) (hb : Below wr.heap.size wr wr') : LongSt w2 wr' gd gn R D N :=
  ⟨h.old.trans (hb.mono h.old.size), h.rest.later hb h.rest.lt, h.digs.later hb h.digs.lt, h.win.later hb h.win.lt⟩
theorem LongSt.window {w2 wr wr' : World} {gd gn : Nat} {R D N N' : List Nat} (h : LongSt w2 wr gd gn R D N) (h1 : w2.heap.size < gn) (h2 : gd < gn) (hb : Below gn wr wr') (hN : Own wr' gn N') : LongSt w2 wr' gd gn R D N' :=
  ⟨h.old.trans (hb.mono (by omega)), h.rest.below hb h1, h.digs.below hb h2, hN⟩
theorem LongSt.fill {w2 wr wr' : World} {gd gn : Nat} {R R' D N : List Nat} (h : LongSt w2 wr gd gn R D N) (h1 : w2.heap.size ≠ gn) (h2 : gd ≠ w2.heap.size) (hb : Below w2.heap.size wr wr' ∧ ∀ k, k ≠ w2.heap.size → wr'.heap[k]? = wr.heap[k]?) (hR : Own wr' w2.heap.size R') : LongSt w2 wr' gd gn R' D N :=
  ⟨h.old.trans hb.1, hR, (hb.2 gd h2).trans h.digs, (hb.2 gn (fun e => h1 e.symm)).trans h.win⟩
theorem LongSt.digit {w2 wr : World} {gd gn : Nat} {R D N : List Nat} (h : LongSt w2 wr gd gn R D N) (h1 : w2.heap.size < gd) (h2 : gd ≠ gn) (t q : Nat) (z : Int) (hz : z = (q : Int)) : LongSt w2 (wr.setCell ⟨gd, t, none⟩ (.int .u64 z)) gd gn R (D.set t q) N := by
  subst hz
  exact ⟨h.old.setCell (by simp; omega) _, h.rest.setOther (by simp; omega), h.digs.set t q, h.win.setOther (by simp; omega)⟩
theorem long_scale (n top nq : Nat) (l : List Nat) (hl : Cub.normal 1000000000 l) (hv : Cub.lval 1000000000 l = n) (hq : l.length = nq + 1) (ht : top = l.getD nq 0) :
    0 < top ∧ top < 1000000000 ∧ 0 < 1000000000 / (top + 1) ∧ 1000000000 / (top + 1) < 1000000000 ∧ n * (1000000000 / (top + 1)) < 1000000000 ^ (nq + 1) ∧ 1000000000 ^ nq ≤ n * (1000000000 / (top + 1)) := by
  obtain ⟨t, x, rfl⟩ := Cub.split_last (show l ≠ [] by intro e; rw [e] at hq; simp at hq)
  obtain ⟨h1, h2, h3⟩ := Cub.normal_last hl
  have hlen : t.length = nq := by simpa using hq
  have hx : top = x := by rw [ht, ← hlen]; simp [List.getD]
  subst hx
  have hs : 0 < 1000000000 / (top + 1) := Nat.div_pos (by omega) (by omega)
  have hs2 : 1000000000 / (top + 1) * (top + 1) ≤ 1000000000 := Nat.div_mul_le_self _ _
  have hs3 : 1000000000 / (top + 1) < 1000000000 := Nat.div_lt_self (by decide) (by omega)
  have hn : n = Cub.lval 1000000000 t + 1000000000 ^ nq * top := by rw [← hv, Cub.lval_snoc, hlen]
  have htl := Cub.lval_lt h1
  rw [hlen] at htl
  generalize 1000000000 / (top + 1) = s at *
  refine ⟨h2, h3, hs, hs3, ?_, ?_⟩
  · have h4 : n + 1 ≤ 1000000000 ^ nq * (top + 1) := by rw [Nat.mul_add, Nat.mul_one]; omega
    have h5 : (n + 1) * s ≤ 1000000000 ^ nq * (top + 1) * s := Nat.mul_le_mul_right _ h4
    have h6 : 1000000000 ^ nq * (top + 1) * s ≤ 1000000000 ^ nq * 1000000000 := by
      rw [Nat.mul_assoc, Nat.mul_comm (top + 1)]
      exact Nat.mul_le_mul_left _ hs2
    rw [Nat.add_mul, Nat.one_mul] at h5
    rw [Nat.pow_succ]
    omega
  · have h4 : 1000000000 ^ nq * 1 ≤ 1000000000 ^ nq * top := Nat.mul_le_mul_left _ h2
    have h5 : n * 1 ≤ n * s := Nat.mul_le_mul_left _ hs
    omega
theorem len_between {l : List Nat} {n k : Nat} (h : Cub.normal 1000000000 l) (hv : Cub.lval 1000000000 l = n) (h1 : 1000000000 ^ k ≤ n) (h2 : n < 1000000000 ^ (k + 1)) : l.length = k + 1 := by
  have a := Cub.len_le h (by rw [hv]; exact h2)
  apply Decidable.byContradiction
  intro hc
  have b := Cub.lval_lt h.1
  have c : 1000000000 ^ l.length ≤ 1000000000 ^ k := Nat.pow_le_pow_right (by decide) (by omega)
  omega
theorem IsBig.at {w : World} {a : Option Addr} {n c : Nat} {v : Nat} (h : IsBig w (.agg #[.slice a n c]) v) : ∃ l, n = l.length ∧ l.length ≤ c ∧ c ≤ 9223372036854775807 ∧ Cub.normal 1000000000 l ∧ Cub.lval 1000000000 l = v ∧ Cells w a l := by
  obtain ⟨s, l, e, hr, hn, hv⟩ := h
  simp only [Value.agg.injEq, Array.mk.injEq, List.cons.injEq, and_true] at e
  subst e
  obtain ⟨h1, h2, h3, h4⟩ := hr.cells
  exact ⟨l, h1, by omega, h3, hn, hv, h4⟩
end Go.Proofs.YtijifpbpjinmhaaGreatDoor
