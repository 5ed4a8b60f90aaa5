/- The document's table of distances: rows of numbers, each a block of its own. -/
import Derived.Test.YtiooiacebgojiaaDoorDist
import Derived.Test.YtiooiacebgojiaaDoorRefPower2
namespace Go.Proofs.YtiooiacebgojiaaDoor
open Go.RowKit

def Blk (W : World) (g : Nat) (e : TypeId) (l : List Value) : Prop := W.heap[g]? = some (.cells l.toArray e (0, 0))
theorem Blk.lt {W : World} {g : Nat} {e : TypeId} {l : List Value} (h : Blk W g e l) : g < W.heap.size := (Array.getElem?_eq_some_iff.1 h).1
theorem Blk.cell {W : World} {g : Nat} {e : TypeId} {l : List Value} (h : Blk W g e l) (j : Nat) : W.cell? ⟨g, j, none⟩ = l[j]? := by
  rw [cell_of_row W g j _ e (0, 0) h]
  simp
theorem Blk.frozen {W : World} {g : Nat} {e : TypeId} {l : List Value} (h : Blk W g e l) (j : Nat) : W.frozen? ⟨g, j, none⟩ = false := frozen_of_row W g j _ e h
theorem Blk.later {W W' : World} {g : Nat} {e : TypeId} {l : List Value} (h : Blk W g e l) (hb : Below W.heap.size W W') : Blk W' g e l := (hb.block g h.lt).trans h
theorem Blk.drewN {W : World} {g : Nat} {e : TypeId} {l : List Value} (h : Blk W g e l) (k : Nat) : Blk (W.drewN k) g e l := h
theorem Blk.set {W : World} {g : Nat} {e : TypeId} {l : List Value} (h : Blk W g e l) (j : Nat) (v : Value) : Blk (W.setCell ⟨g, j, none⟩ v) g e (l.set j v) := by
  unfold Blk at h ⊢
  simp only [World.setCell, Array.getElem?_modify]
  rw [if_pos trivial, h]
  simp
theorem Blk.other {W : World} {g g' : Nat} {e : TypeId} {l : List Value} (h : Blk W g e l) (hne : g' ≠ g) (j : Nat) (v : Value) : Blk (W.setCell ⟨g', j, none⟩ v) g e l := by
  unfold Blk at h ⊢
  simp only [World.setCell, Array.getElem?_modify]
  rw [if_neg hne, h]
theorem blk_of_own {W : World} {B g : Nat} {e : TypeId} {n : Nat} {xs : List Value} (h : W.ownsRow B e 1 (.slice (some ⟨g, 0, none⟩) n n) n xs) : Blk W g e xs := by
  rcases h.2 with ⟨hv, _⟩ | ⟨g', cap, cur, hv, _, hg, _, _, hc, ht⟩
  · cases hv
  · simp only [Value.slice.injEq, Option.some.injEq, Addr.mk.injEq, and_true, true_and] at hv
    obtain ⟨rfl, rfl⟩ := hv
    unfold Blk
    rw [hg, ← ht, List.take_of_length_le (by rw [Array.length_toList, hc]; exact Nat.le_refl _)]
def ints (l : List Int) : List Value := l.map fun x => .int .i64 x
theorem ints_get (l : List Int) (j : Nat) (x : Int) (h : l[j]? = some x) : (ints l)[j]? = some (.int .i64 x) := by simp [ints, h]
theorem ints_set (l : List Int) (j : Nat) (x : Int) : (ints l).set j (.int .i64 x) = ints (l.set j x) := by simp [ints, List.map_set]
theorem ints_some (l : List Int) (j : Nat) (h : j < l.length) : ∃ x, (ints l)[j]? = some (.int .i64 x) := ⟨l[j], ints_get l j _ (List.getElem?_eq_getElem h)⟩
/-- The rows ahead of row i stand: the last two. -/
def Prev (W : World) (m i : Nat) (D : Nat → Nat → Int) (O : List Value) (H : Nat) : Prop := ∀ i', i' < i → i ≤ i' + 2 → ∃ H1 R1, O[i']? = some (.slice (some ⟨H1, 0, none⟩) (m + 1) (m + 1)) ∧ H1 ≠ H ∧ Blk W H1 3 (ints R1) ∧ ∀ j, j ≤ m → R1[j]? = some (D i' j)
structure OutS (W w2 : World) (G n m i : Nat) (D : Nat → Nat → Int) (O : List Value) : Prop where
  lenO : O.length = n + 1
  blkG : Blk W G 76 O
  lowG : w2.heap.size ≤ G
  prev : Prev W m i D O G
  below : Below w2.heap.size w2 W
structure InS (W w2 : World) (G n m i : Nat) (D : Nat → Nat → Int) (O : List Value) (H : Nat) (R : List Int) : Prop where
  lenO : O.length = n + 1
  blkG : Blk W G 76 O
  lowG : w2.heap.size ≤ G
  oi : O[i]? = some (.slice (some ⟨H, 0, none⟩) (m + 1) (m + 1))
  neG : H ≠ G
  blkH : Blk W H 3 (ints R)
  lenR : R.length = m + 1
  lowH : w2.heap.size ≤ H
  prev : Prev W m i D O H
  prevG : Prev W m i D O G
  below : Below w2.heap.size w2 W
theorem Prev.later {W W' : World} {m i : Nat} {D : Nat → Nat → Int} {O : List Value} {H : Nat} (h : Prev W m i D O H) (hb : Below W.heap.size W W') : Prev W' m i D O H := fun i' h1 h2 => by
  obtain ⟨H1, R1, a, b, c, d⟩ := h i' h1 h2
  exact ⟨H1, R1, a, b, c.later hb, d⟩
theorem Prev.set {W : World} {m i : Nat} {D : Nat → Nat → Int} {O : List Value} {H H' : Nat} (h : Prev W m i D O H) (h' : Prev W m i D O H') (j : Nat) (v : Value) : Prev (W.setCell ⟨H, j, none⟩ v) m i D O H' := fun i' h1 h2 => by
  obtain ⟨H1, R1, a, b, c, d⟩ := h i' h1 h2
  obtain ⟨H2, R2, a2, b2, _, _⟩ := h' i' h1 h2
  have e : H2 = H1 := by rw [a2] at a; simp only [Option.some.injEq, Value.slice.injEq, Addr.mk.injEq] at a; exact a.1.1
  subst e
  exact ⟨H2, R1, a, b2, c.other (Ne.symm b) j v, d⟩
theorem InS.set {W w2 : World} {G n m i : Nat} {D : Nat → Nat → Int} {O : List Value} {H : Nat} {R : List Int} (h : InS W w2 G n m i D O H R) (j : Nat) (v : Int) : InS (W.setCell ⟨H, j, none⟩ (.int .i64 v)) w2 G n m i D O H (R.set j v) where
  lenO := h.lenO
  blkG := h.blkG.other h.neG j _
  lowG := h.lowG
  oi := h.oi
  neG := h.neG
  blkH := by rw [← ints_set]; exact h.blkH.set j _
  lenR := by rw [List.length_set]; exact h.lenR
  lowH := h.lowH
  prev := h.prev.set h.prev j _
  prevG := h.prev.set h.prevG j _
  below := h.below.setCell h.lowH _
theorem InS.drewN {W w2 : World} {G n m i : Nat} {D : Nat → Nat → Int} {O : List Value} {H : Nat} {R : List Int} (h : InS W w2 G n m i D O H R) (k : Nat) : InS (W.drewN k) w2 G n m i D O H R where
  lenO := h.lenO
  blkG := h.blkG
  lowG := h.lowG
  oi := h.oi
  neG := h.neG
  blkH := h.blkH
  lenR := h.lenR
  lowH := h.lowH
  prev := h.prev
  prevG := h.prevG
  below := h.below.trans ⟨rfl, rfl, rfl, Nat.le_refl _, fun _ _ => rfl⟩
theorem InS.later {W W' w2 : World} {G n m i : Nat} {D : Nat → Nat → Int} {O : List Value} {H : Nat} {R : List Int} (h : InS W w2 G n m i D O H R) (hb : Below W.heap.size W W') : InS W' w2 G n m i D O H R where
  lenO := h.lenO
  blkG := h.blkG.later hb
  lowG := h.lowG
  oi := h.oi
  neG := h.neG
  blkH := h.blkH.later hb
  lenR := h.lenR
  lowH := h.lowH
  prev := h.prev.later hb
  prevG := h.prevG.later hb
  below := h.below.trans (hb.mono h.below.size)
/-- A row is whole: the next one. -/
theorem InS.out {W w2 : World} {G n m i : Nat} {D : Nat → Nat → Int} {O : List Value} {H : Nat} {R : List Int} (h : InS W w2 G n m i D O H R) (hR : ∀ j, j ≤ m → R[j]? = some (D i j)) : OutS W w2 G n m (i + 1) D O where
  lenO := h.lenO
  blkG := h.blkG
  lowG := h.lowG
  prev := fun i' h1 h2 => by
    by_cases e : i' = i
    · subst e; exact ⟨H, R, h.oi, h.neG, h.blkH, hR⟩
    · exact h.prevG i' (by omega) (by omega)
  below := h.below
/-- A new row. -/
theorem OutS.row {W w2 W' : World} {G n m i : Nat} {D : Nat → Nat → Int} {O : List Value} (h : OutS W w2 G n m i D O) (hi : i ≤ n) (hb : Below W.heap.size W W') (R : List Int) (hR : R.length = m + 1) (hk : Blk W' W.heap.size 3 (ints R)) : InS (W'.setCell ⟨G, i, none⟩ (.slice (some ⟨W.heap.size, 0, none⟩) (m + 1) (m + 1))) w2 G n m i D (O.set i (.slice (some ⟨W.heap.size, 0, none⟩) (m + 1) (m + 1))) W.heap.size R := by
  have hG : G < W.heap.size := h.blkG.lt
  have hp : ∀ i', i' < i → i ≤ i' + 2 → ∃ H1 R1, (O.set i (.slice (some ⟨W.heap.size, 0, none⟩) (m + 1) (m + 1)))[i']? = some (.slice (some ⟨H1, 0, none⟩) (m + 1) (m + 1)) ∧ H1 ≠ G ∧ H1 ≠ W.heap.size ∧ Blk (W'.setCell ⟨G, i, none⟩ (.slice (some ⟨W.heap.size, 0, none⟩) (m + 1) (m + 1))) H1 3 (ints R1) ∧ ∀ j, j ≤ m → R1[j]? = some (D i' j) := fun i' h1 h2 => by
    obtain ⟨H1, R1, a, b, c, d⟩ := h.prev i' h1 h2
    refine ⟨H1, R1, ?_, b, ?_, (c.later hb).other (Ne.symm b) i _, d⟩
    · rw [List.getElem?_set_ne (by omega)]; exact a
    · have := c.lt; omega
  refine ⟨by rw [List.length_set]; exact h.lenO, (h.blkG.later hb).set i _, h.lowG, ?_, by omega, hk.other (by omega) i _, hR, h.below.size, ?_, ?_, (h.below.trans (hb.mono h.below.size)).setCell h.lowG _⟩
  · rw [List.getElem?_set_self (by rw [h.lenO]; omega)]
  · intro i' h1 h2
    obtain ⟨H1, R1, a, _, b, c, d⟩ := hp i' h1 h2
    exact ⟨H1, R1, a, b, c, d⟩
  · intro i' h1 h2
    obtain ⟨H1, R1, a, b, _, c, d⟩ := hp i' h1 h2
    exact ⟨H1, R1, a, b, c, d⟩
end Go.Proofs.YtiooiacebgojiaaDoor
