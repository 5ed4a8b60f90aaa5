/- The document's division of limbs of four digits: plain facts. No program is named here. -/
import Derived.Test.YtoinadnpdbaamaaGreatDoorRefMinus
import Derived.Test.YtoinadnpdbaamaaGreatDoorPlain
namespace Cub

theorem lval_split4 (B : Nat) (l : List Nat) (i : Nat) (h : i ≤ l.length) : lval B l = lval B (l.take i) + B ^ i * lval B (l.drop i) := by
  have e := lval_append B (l.take i) (l.drop i)
  rw [List.take_append_drop, List.length_take, Nat.min_eq_left h] at e
  exact e
theorem lval_drop (B : Nat) (l : List Nat) (i : Nat) (h : i < l.length) : lval B (l.drop i) = l[i] + B * lval B (l.drop (i + 1)) := by
  rw [List.drop_eq_getElem_cons h]; rfl
theorem limbs_drop4 {B : Nat} {l : List Nat} (h : limbs B l) (i : Nat) : limbs B (l.drop i) := fun x hx => h x (List.mem_of_mem_drop hx)
theorem limbs_take4 {B : Nat} {l : List Nat} (h : limbs B l) (i : Nat) : limbs B (l.take i) := fun x hx => h x (List.mem_of_mem_take hx)

/-- Of two rows of one length, alike from i + 1 on, the limb at i tells. -/
theorem less_at {B : Nat} {x y : List Nat} {i : Nat} (hx : limbs B x) (hi : i < x.length) (hj : i < y.length) (hd : x.drop (i + 1) = y.drop (i + 1)) (h : x[i] < y[i]) : lval B x < lval B y := by
  rw [lval_split4 B x i (by omega), lval_split4 B y i (by omega), lval_drop B x i hi, lval_drop B y i hj, hd]
  have h1 := lval_lt (limbs_take4 hx i)
  rw [List.length_take, Nat.min_eq_left (by omega)] at h1
  have h2 : B ^ i * (x[i] + B * lval B (y.drop (i + 1))) + B ^ i ≤ B ^ i * (y[i] + B * lval B (y.drop (i + 1))) := by
    rw [← Nat.mul_succ]; exact Nat.mul_le_mul_left _ (by omega)
  omega
theorem drop_same {x y : List Nat} {i : Nat} (hi : i < x.length) (hj : i < y.length) (hd : x.drop (i + 1) = y.drop (i + 1)) (h : x[i] = y[i]) : x.drop i = y.drop i := by
  rw [List.drop_eq_getElem_cons hi, List.drop_eq_getElem_cons hj, hd, h]
/-- Of two rows without noughts at the top the longer one is the greater. -/
theorem less_len {B : Nat} {x y : List Nat} (hB : 1 < B) (hx : limbs B x) (hy : normal B y) (h : x.length < y.length) : lval B x < lval B y := by
  have h1 := lval_lt hx
  have h2 := normal_ge hy (by intro e; rw [e] at h; simp at h)
  have h3 : B ^ x.length ≤ B ^ (y.length - 1) := Nat.pow_le_pow_right (by omega) (by omega)
  omega

/-- How far one number has been taken q times from another, from place 'up' on: D is what stands, c is owed. -/
structure RefTakeInv (X Y D : List Nat) (up q c k : Nat) : Prop where
  len : D.length = X.length
  lim : limbs 10000 D
  low : D.take up = X.take up
  rest : D.drop (up + k) = X.drop (up + k)
  eq : lval 10000 ((D.drop up).take k) + q * lval 10000 (Y.take k) = lval 10000 ((X.drop up).take k) + c * 10000 ^ k
  owed : c ≤ 9999
theorem RefTakeInv.start {X : List Nat} (Y : List Nat) (up q : Nat) (hX : limbs 10000 X) : RefTakeInv X Y X up q 0 0 :=
  ⟨rfl, hX, rfl, rfl, by simp [lval], by omega⟩
theorem take_next (l : List Nat) (up k : Nat) (h : up + k < l.length) : lval 10000 ((l.drop up).take (k + 1)) = lval 10000 ((l.drop up).take k) + 10000 ^ k * l[up + k] := by
  have hk : k < (l.drop up).length := by rw [List.length_drop]; omega
  rw [List.take_succ_eq_append_getElem hk, lval_snoc, List.length_take, Nat.min_eq_left (Nat.le_of_lt hk), List.getElem_drop]
theorem take_getD4 (l : List Nat) (i : Nat) : lval 10000 (l.take (i + 1)) = lval 10000 (l.take i) + 10000 ^ i * l.getD i 0 := by
  by_cases h : i < l.length
  · rw [List.take_succ_eq_append_getElem h, lval_snoc, List.length_take, Nat.min_eq_left (by omega)]; simp [List.getD, h]
  · rw [List.take_of_length_le (by omega), List.take_of_length_le (by omega)]; simp [List.getD, List.getElem?_eq_none (Nat.le_of_not_lt h)]
theorem RefTakeInv.step {X Y D : List Nat} {up q c k d c' : Nat} (h : RefTakeInv X Y D up q c k) (hk : up + k < D.length) (hd : d < 10000) (hc : c' ≤ 9999)
    (he : D[up + k] + c' * 10000 = d + c + q * Y.getD k 0) : RefTakeInv X Y (D.set (up + k) d) up q c' (k + 1) := by
  have hl := h.len
  have hkX : up + k < X.length := by omega
  have hDX : D[up + k] = X[up + k] := by
    have := h.rest
    rw [List.drop_eq_getElem_cons hk, List.drop_eq_getElem_cons hkX] at this
    exact (List.cons.inj this).1
  refine ⟨by rw [List.length_set]; exact hl, limbs_set h.lim _ _ hd, ?_, ?_, ?_, hc⟩
  · rw [List.take_set_of_le (by omega)]; exact h.low
  · rw [List.drop_set_of_lt (by omega), ← Nat.add_assoc]
    have := h.rest
    rw [List.drop_eq_getElem_cons hk, List.drop_eq_getElem_cons hkX] at this
    exact (List.cons.inj this).2
  · have e1 : lval 10000 (((D.set (up + k) d).drop up).take (k + 1)) = lval 10000 ((D.drop up).take k) + 10000 ^ k * d := by
      rw [take_next _ up k (by rw [List.length_set]; exact hk), List.getElem_set_self]
      congr 2
      rw [List.drop_set]
      split
      · omega
      · rw [List.take_set_of_le (by omega)]
    rw [e1, take_getD4, take_next X up k hkX]
    have e := h.eq
    rw [hDX] at he
    generalize X[up + k] = xv at *
    generalize Y.getD k 0 = yv at *
    generalize lval 10000 ((D.drop up).take k) = a at *
    generalize lval 10000 (Y.take k) = b at *
    generalize lval 10000 ((X.drop up).take k) = x at *
    rw [Nat.pow_succ]
    generalize (10000 : Nat) ^ k = p at *
    have h1 : p * (xv + c' * 10000) = p * (d + c + q * yv) := by rw [he]
    have h2 : p * (xv + c' * 10000) = p * xv + c' * (p * 10000) := by grind
    have h3 : p * (d + c + q * yv) = p * d + c * p + q * (p * yv) := by grind
    rw [h2, h3] at h1
    rw [Nat.mul_add]
    omega
/-- The end: nothing is owed. -/
theorem RefTakeInv.done {X Y D : List Nat} {up q k : Nat} (h : RefTakeInv X Y D up q 0 k) (hk : Y.length ≤ k) (hup : up + k ≤ X.length) : lval 10000 (D.drop up) + q * lval 10000 Y = lval 10000 (X.drop up) := by
  have e := h.eq
  rw [List.take_of_length_le hk, Nat.zero_mul, Nat.add_zero] at e
  have hl := h.len
  rw [lval_split4 10000 (D.drop up) k (by rw [List.length_drop]; omega), lval_split4 10000 (X.drop up) k (by rw [List.length_drop]; omega), List.drop_drop, List.drop_drop, h.rest]
  omega
theorem RefTakeInv.owes {X Y D : List Nat} {up q c k : Nat} (h : RefTakeInv X Y D up q c k) (hk : Y.length ≤ k) (hup : up + k = X.length) (hle : q * lval 10000 Y ≤ lval 10000 (X.drop up)) : c = 0 := by
  have e := h.eq
  have hl := h.len
  rw [List.take_of_length_le hk, List.take_of_length_le (by rw [List.length_drop]; omega), List.take_of_length_le (by rw [List.length_drop]; omega)] at e
  have h1 := lval_lt (limbs_drop4 h.lim up)
  rw [List.length_drop, hl, show X.length - up = k by omega] at h1
  rcases Nat.eq_zero_or_pos c with hc | hc
  · exact hc
  · have : 10000 ^ k ≤ c * 10000 ^ k := Nat.le_mul_of_pos_left _ hc
    omega

/-- How far a number A has been divided by V: Q is found from 'up' on (the first 'up' are noughts), X is left. -/
structure DivInv (A V : Nat) (X Q : List Nat) (n up : Nat) : Prop where
  lenX : X.length = n
  lenQ : Q.length = n
  limX : limbs 10000 X
  limQ : limbs 10000 Q
  zero : ∀ i (h : i < Q.length), i < up → Q[i] = 0
  sum : lval 10000 X + V * lval 10000 Q = A
  rest : lval 10000 (X.drop up) < V
theorem DivInv.start {A V : Nat} {X : List Nat} {up : Nat} (hX : limbs 10000 X) (hA : lval 10000 X = A) (hr : lval 10000 (X.drop up) < V) : DivInv A V X (List.replicate X.length 0) X.length up :=
  ⟨rfl, by simp, hX, limbs_zeros _ _ (by decide), fun i h _ => by simp, by rw [lval_zeros, Nat.mul_zero, Nat.add_zero]; exact hA, hr⟩
theorem DivInv.quo {A V : Nat} {X Q : List Nat} {n up : Nat} (h : DivInv A V X Q n (up + 1)) (hup : up < n) : lval 10000 (X.drop up) / V ≤ 9999 := by
  have h1 : up < X.length := by rw [h.lenX]; exact hup
  rw [lval_drop 10000 X up h1]
  have h2 : X[up] < 10000 := h.limX _ (List.getElem_mem h1)
  have h3 := h.rest
  have h4 : X[up] + 10000 * lval 10000 (X.drop (up + 1)) < 10000 * V := by omega
  have := (Nat.div_lt_iff_lt_mul (by omega : 0 < V)).2 h4
  omega
theorem DivInv.step {A V : Nat} {X Q D : List Nat} {n up q : Nat} (h : DivInv A V X Q n (up + 1)) (hup : up < n) (hq : q = lval 10000 (X.drop up) / V)
    (hl : D.length = X.length) (hD : limbs 10000 D) (hlow : D.take up = X.take up) (hs : lval 10000 (D.drop up) + q * V = lval 10000 (X.drop up)) : DivInv A V D (Q.set up q) n up := by
  have hV : 0 < V := by have := h.rest; omega
  have h1 : up < X.length := by rw [h.lenX]; exact hup
  have h2 : up < Q.length := by rw [h.lenQ]; exact hup
  have h9 := h.quo hup
  refine ⟨hl.trans h.lenX, by rw [List.length_set]; exact h.lenQ, hD, limbs_set h.limQ _ _ (by omega), ?_, ?_, ?_⟩
  · intro i hi hlt
    rw [List.getElem_set_ne (by omega)]
    exact h.zero i (by rw [List.length_set] at hi; exact hi) (by omega)
  · have e1 := lval_set 10000 Q up q h2
    rw [h.zero up h2 (by omega), Nat.mul_zero, Nat.add_zero] at e1
    have e2 := h.sum
    rw [lval_split4 10000 X up (by omega)] at e2
    rw [lval_split4 10000 D up (by omega), hlow, e1]
    have e3 : 10000 ^ up * lval 10000 (X.drop up) = 10000 ^ up * lval 10000 (D.drop up) + V * (10000 ^ up * q) := by rw [← hs]; grind
    rw [Nat.mul_add]
    omega
  · have := Nat.div_add_mod (lval 10000 (X.drop up)) V
    have hm := Nat.mod_lt (lval 10000 (X.drop up)) hV
    rw [← hq, Nat.mul_comm V q] at this
    omega
theorem DivInv.done {A V : Nat} {X Q : List Nat} {n : Nat} (h : DivInv A V X Q n 0) : lval 10000 Q = A / V ∧ lval 10000 X = A % V := by
  have h1 := h.sum
  have h2 := h.rest
  rw [List.drop_zero] at h2
  have hV : 0 < V := by omega
  have e := (Nat.div_mod_unique hV (a := A) (d := lval 10000 Q) (c := lval 10000 X)).2 ⟨h1, h2⟩
  exact ⟨e.1.symm, e.2.symm⟩
end Cub
