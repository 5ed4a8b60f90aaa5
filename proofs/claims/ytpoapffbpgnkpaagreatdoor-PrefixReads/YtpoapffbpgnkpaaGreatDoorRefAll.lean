/- The document's All. -/
import Derived.Test.YtpoapffbpgnkpaaGreatDoorGcdSmall
import Derived.Test.YtpoapffbpgnkpaaGreatDoorRefText2
import Derived.Test.YtpoapffbpgnkpaaGreatDoorLimb5
import Derived.OneCell
import Derived.Deep.QuietTactic
import Derived.BigQuiet
import Derived.WalkSmall
import Derived.Deep.Cut
import Derived.Test.YtpoapffbpgnkpaaGreatDoorShelf
import Derived.OwnWalk
import Derived.Test.YtpoapffbpgnkpaaGreatDoorCmpMath
import Derived.Test.YtpoapffbpgnkpaaGreatDoorLit2
import Derived.Laws.AppendOwn
import Derived.Laws.EntriesVeiled
namespace Cub
/-- A sum in the making, least limb first: S what is written, k what is carried. -/
structure PlusInv (B : Nat) (x y S : List Nat) (k : Nat) : Prop where
  lim : limbs B S
  val : lval B S + B ^ S.length * k = lval B (x.take S.length) + lval B (y.take S.length)
  carry : k ≤ 1
theorem PlusInv.start (B : Nat) (x y : List Nat) : PlusInv B x y [] 0 := ⟨fun _ h => (by cases h), by simp [lval], by omega⟩
theorem PlusInv.step {B : Nat} {x y S : List Nat} {k : Nat} (h : PlusInv B x y S k) (hB : 1 < B) (hx : x.getD S.length 0 < B) (hy : y.getD S.length 0 < B) :
    PlusInv B x y (S ++ [(k + x.getD S.length 0 + y.getD S.length 0) % B]) ((k + x.getD S.length 0 + y.getD S.length 0) / B) := by
  have hk := h.carry
  refine ⟨limbs_append.2 ⟨h.lim, fun z hz => ?_⟩, ?_, ?_⟩
  · rw [List.mem_singleton] at hz; subst hz; exact Nat.mod_lt _ (by omega)
  · rw [lval_snoc, List.length_append, List.length_singleton, takeB, takeB, Nat.pow_succ]
    have e := h.val
    generalize x.getD S.length 0 = a at *
    generalize y.getD S.length 0 = b at *
    have e3 : k + a + b = B * ((k + a + b) / B) + (k + a + b) % B := (Nat.div_add_mod _ _).symm
    generalize (k + a + b) / B = q at *
    generalize (k + a + b) % B = r at *
    have e4 := congrArg (B ^ S.length * ·) e3
    simp only [Nat.mul_add] at e4
    have m1 : B ^ S.length * B * q = B ^ S.length * (B * q) := Nat.mul_assoc _ _ _
    omega
  · have : (k + x.getD S.length 0 + y.getD S.length 0) < 2 * B := by omega
    have := Nat.div_lt_of_lt_mul (show (k + x.getD S.length 0 + y.getD S.length 0) < B * 2 by omega)
    omega
theorem PlusInv.sum {B : Nat} {x y S : List Nat} (h : PlusInv B x y S 0) (h1 : x.length ≤ S.length) (h2 : y.length ≤ S.length) : lval B S = lval B x + lval B y := by
  have := h.val
  rw [List.take_of_length_le h1, List.take_of_length_le h2] at this
  simpa using this
end Cub
namespace Go.Proofs.YtpoapffbpgnkpaaGreatDoor
open Go.RowKit

end Go.Proofs.YtpoapffbpgnkpaaGreatDoor

namespace Cub
/-- A difference in the making: D is x with its first i limbs worked over, k what was borrowed. -/
structure MinusInv (B : Nat) (x y D : List Nat) (k i : Nat) : Prop where
  len : D.length = x.length
  lim : limbs B D
  rest : ∀ j (h : j < D.length), i ≤ j → D[j] = x[j]'(by omega)
  val : lval B D + lval B (y.take i) = lval B x + B ^ i * k
  borrow : k ≤ 1
theorem MinusInv.start {B : Nat} {x : List Nat} (y : List Nat) (hx : limbs B x) : MinusInv B x y x 0 0 := ⟨rfl, hx, fun _ _ _ => rfl, by simp [lval], by omega⟩
theorem MinusInv.step {B : Nat} {x y D : List Nat} {k i d k' : Nat} (h : MinusInv B x y D k i) (hi : i < D.length) (hd : d < B) (hk : k' ≤ 1)
    (he : d + k + y.getD i 0 = D[i] + B * k') : MinusInv B x y (D.set i d) k' (i + 1) := by
  refine ⟨by simp [h.len], limbs_set h.lim i _ hd, fun j hj hij => ?_, ?_, hk⟩
  · rw [List.getElem_set_ne (by omega)]
    exact h.rest j (by simpa using hj) (by omega)
  · have e1 := lval_set B D i d hi
    have e2 := h.val
    rw [takeB, Nat.pow_succ]
    have e3 := congrArg (B ^ i * ·) he
    simp only [Nat.mul_add] at e3
    have m1 : B ^ i * B * k' = B ^ i * (B * k') := Nat.mul_assoc _ _ _
    omega
theorem MinusInv.last {B : Nat} {x y D : List Nat} {k i : Nat} (h : MinusInv B x y D k i) (hi : i = x.length) (hy : y.length ≤ x.length) (hle : lval B y ≤ lval B x) : k = 0 ∧ lval B D = lval B x - lval B y := by
  have h1 := lval_lt h.lim
  have h2 := h.val
  rw [List.take_of_length_le (by omega), hi] at h2
  rw [h.len] at h1
  rcases Nat.eq_zero_or_pos k with h0 | h0
  · subst h0; exact ⟨rfl, by omega⟩
  · exfalso
    have : B ^ x.length * 1 ≤ B ^ x.length * k := Nat.mul_le_mul_left _ h0
    omega
end Cub
namespace Go.Proofs.YtpoapffbpgnkpaaGreatDoor
open Go.RowKit

theorem i64s_set (l : List Nat) (i x : Nat) : (i64s l).set i (.int .i64 (x : Int)) = i64s (l.set i x) := by simp [i64s, List.map_set]

end Go.Proofs.YtpoapffbpgnkpaaGreatDoor

namespace Cub

theorem lval_split4 (B : Nat) (l : List Nat) (i : Nat) (h : i ≤ l.length) : lval B l = lval B (l.take i) + B ^ i * lval B (l.drop i) := by
  have e := lval_append B (l.take i) (l.drop i)
  rw [List.take_append_drop, List.length_take, Nat.min_eq_left h] at e
  exact e
theorem lval_drop (B : Nat) (l : List Nat) (i : Nat) (h : i < l.length) : lval B (l.drop i) = l[i] + B * lval B (l.drop (i + 1)) := by
  rw [List.drop_eq_getElem_cons h]; rfl
/-- How far one number has been taken q times from another, from place 'up' on: D is what stands, c is owed. -/
structure RefTakeInv (X Y D : List Nat) (up q c k : Nat) : Prop where
  len : D.length = X.length
  lim : limbs 10000 D
  low : D.take up = X.take up
  rest : D.drop (up + k) = X.drop (up + k)
  eq : lval 10000 ((D.drop up).take k) + q * lval 10000 (Y.take k) = lval 10000 ((X.drop up).take k) + c * 10000 ^ k
  owed : c ≤ 9999
theorem RefTakeInv.start {X : List Nat} (Y : List Nat) (up q : Nat) (hX : limbs 10000 X) : RefTakeInv X Y X up q 0 0 :=
  ⟨rfl, hX, rfl, rfl, by simp [lval], by omega⟩
theorem take_next (l : List Nat) (up k : Nat) (h : up + k < l.length) : lval 10000 ((l.drop up).take (k + 1)) = lval 10000 ((l.drop up).take k) + 10000 ^ k * l[up + k] := by
  have hk : k < (l.drop up).length := by rw [List.length_drop]; omega
  rw [List.take_succ_eq_append_getElem hk, lval_snoc, List.length_take, Nat.min_eq_left (Nat.le_of_lt hk), List.getElem_drop]
theorem take_getD4 (l : List Nat) (i : Nat) : lval 10000 (l.take (i + 1)) = lval 10000 (l.take i) + 10000 ^ i * l.getD i 0 := by
  by_cases h : i < l.length
  · rw [List.take_succ_eq_append_getElem h, lval_snoc, List.length_take, Nat.min_eq_left (by omega)]; simp [List.getD, h]
  · rw [List.take_of_length_le (by omega), List.take_of_length_le (by omega)]; simp [List.getD, List.getElem?_eq_none (Nat.le_of_not_lt h)]
theorem RefTakeInv.step {X Y D : List Nat} {up q c k d c' : Nat} (h : RefTakeInv X Y D up q c k) (hk : up + k < D.length) (hd : d < 10000) (hc : c' ≤ 9999)
    (he : D[up + k] + c' * 10000 = d + c + q * Y.getD k 0) : RefTakeInv X Y (D.set (up + k) d) up q c' (k + 1) := by
  have hl := h.len
  have hkX : up + k < X.length := by omega
  have hDX : D[up + k] = X[up + k] := by
    have := h.rest
    rw [List.drop_eq_getElem_cons hk, List.drop_eq_getElem_cons hkX] at this
    exact (List.cons.inj this).1
  refine ⟨by rw [List.length_set]; exact hl, limbs_set h.lim _ _ hd, ?_, ?_, ?_, hc⟩
  · rw [List.take_set_of_le (by omega)]; exact h.low
  · rw [List.drop_set_of_lt (by omega), ← Nat.add_assoc]
    have := h.rest
    rw [List.drop_eq_getElem_cons hk, List.drop_eq_getElem_cons hkX] at this
    exact (List.cons.inj this).2
  · have e1 : lval 10000 (((D.set (up + k) d).drop up).take (k + 1)) = lval 10000 ((D.drop up).take k) + 10000 ^ k * d := by
      rw [take_next _ up k (by rw [List.length_set]; exact hk), List.getElem_set_self]
      congr 2
      rw [List.drop_set]
      split
      · omega
      · rw [List.take_set_of_le (by omega)]
    rw [e1, take_getD4, take_next X up k hkX]
    have e := h.eq
    rw [hDX] at he
    generalize X[up + k] = xv at *
    generalize Y.getD k 0 = yv at *
    generalize lval 10000 ((D.drop up).take k) = a at *
    generalize lval 10000 (Y.take k) = b at *
    generalize lval 10000 ((X.drop up).take k) = x at *
    rw [Nat.pow_succ]
    generalize (10000 : Nat) ^ k = p at *
    have h1 : p * (xv + c' * 10000) = p * (d + c + q * yv) := by rw [he]
    have h2 : p * (xv + c' * 10000) = p * xv + c' * (p * 10000) := by grind
    have h3 : p * (d + c + q * yv) = p * d + c * p + q * (p * yv) := by grind
    rw [h2, h3] at h1
    rw [Nat.mul_add]
    omega
/-- The end: nothing is owed. -/
theorem RefTakeInv.done {X Y D : List Nat} {up q k : Nat} (h : RefTakeInv X Y D up q 0 k) (hk : Y.length ≤ k) (hup : up + k ≤ X.length) : lval 10000 (D.drop up) + q * lval 10000 Y = lval 10000 (X.drop up) := by
  have e := h.eq
  rw [List.take_of_length_le hk, Nat.zero_mul, Nat.add_zero] at e
  have hl := h.len
  rw [lval_split4 10000 (D.drop up) k (by rw [List.length_drop]; omega), lval_split4 10000 (X.drop up) k (by rw [List.length_drop]; omega), List.drop_drop, List.drop_drop, h.rest]
  omega
/-- How far a number A has been divided by V: Q is found from 'up' on (the first 'up' are noughts), X is left. -/
structure DivInv (A V : Nat) (X Q : List Nat) (n up : Nat) : Prop where
  lenX : X.length = n
  lenQ : Q.length = n
  limX : limbs 10000 X
  limQ : limbs 10000 Q
  zero : ∀ i (h : i < Q.length), i < up → Q[i] = 0
  sum : lval 10000 X + V * lval 10000 Q = A
  rest : lval 10000 (X.drop up) < V
theorem DivInv.start {A V : Nat} {X : List Nat} {up : Nat} (hX : limbs 10000 X) (hA : lval 10000 X = A) (hr : lval 10000 (X.drop up) < V) : DivInv A V X (List.replicate X.length 0) X.length up :=
  ⟨rfl, by simp, hX, limbs_zeros _ _ (by decide), fun i h _ => by simp, by rw [lval_zeros, Nat.mul_zero, Nat.add_zero]; exact hA, hr⟩
theorem DivInv.quo {A V : Nat} {X Q : List Nat} {n up : Nat} (h : DivInv A V X Q n (up + 1)) (hup : up < n) : lval 10000 (X.drop up) / V ≤ 9999 := by
  have h1 : up < X.length := by rw [h.lenX]; exact hup
  rw [lval_drop 10000 X up h1]
  have h2 : X[up] < 10000 := h.limX _ (List.getElem_mem h1)
  have h3 := h.rest
  have h4 : X[up] + 10000 * lval 10000 (X.drop (up + 1)) < 10000 * V := by omega
  have := (Nat.div_lt_iff_lt_mul (by omega : 0 < V)).2 h4
  omega
theorem DivInv.step {A V : Nat} {X Q D : List Nat} {n up q : Nat} (h : DivInv A V X Q n (up + 1)) (hup : up < n) (hq : q = lval 10000 (X.drop up) / V)
    (hl : D.length = X.length) (hD : limbs 10000 D) (hlow : D.take up = X.take up) (hs : lval 10000 (D.drop up) + q * V = lval 10000 (X.drop up)) : DivInv A V D (Q.set up q) n up := by
  have hV : 0 < V := by have := h.rest; omega
  have h1 : up < X.length := by rw [h.lenX]; exact hup
  have h2 : up < Q.length := by rw [h.lenQ]; exact hup
  have h9 := h.quo hup
  refine ⟨hl.trans h.lenX, by rw [List.length_set]; exact h.lenQ, hD, limbs_set h.limQ _ _ (by omega), ?_, ?_, ?_⟩
  · intro i hi hlt
    rw [List.getElem_set_ne (by omega)]
    exact h.zero i (by rw [List.length_set] at hi; exact hi) (by omega)
  · have e1 := lval_set 10000 Q up q h2
    rw [h.zero up h2 (by omega), Nat.mul_zero, Nat.add_zero] at e1
    have e2 := h.sum
    rw [lval_split4 10000 X up (by omega)] at e2
    rw [lval_split4 10000 D up (by omega), hlow, e1]
    have e3 : 10000 ^ up * lval 10000 (X.drop up) = 10000 ^ up * lval 10000 (D.drop up) + V * (10000 ^ up * q) := by rw [← hs]; grind
    rw [Nat.mul_add]
    omega
  · have := Nat.div_add_mod (lval 10000 (X.drop up)) V
    have hm := Nat.mod_lt (lval 10000 (X.drop up)) hV
    rw [← hq, Nat.mul_comm V q] at this
    omega
theorem DivInv.done {A V : Nat} {X Q : List Nat} {n : Nat} (h : DivInv A V X Q n 0) : lval 10000 Q = A / V ∧ lval 10000 X = A % V := by
  have h1 := h.sum
  have h2 := h.rest
  rw [List.drop_zero] at h2
  have hV : 0 < V := by omega
  have e := (Nat.div_mod_unique hV (a := A) (d := lval 10000 Q) (c := lval 10000 X)).2 ⟨h1, h2⟩
  exact ⟨e.1.symm, e.2.symm⟩
end Cub

namespace Go.Proofs.YtpoapffbpgnkpaaGreatDoor
open Go.RowKit

/-- What stands of the row that is filled. -/
structure OutI (w wr : World) (g N : Nat) (O : List Nat) : Prop where
  own : wr.ownsRow w.heap.size 3 1 (.slice (some ⟨g, 0, none⟩) N N) N (i64s O)
  len : O.length = N
  low : w.heap.size ≤ g
  below : Below w.heap.size w wr

theorem OutI.cell {w wr : World} {g N : Nat} {O : List Nat} (h : OutI w wr g N O) (p : Nat) (hp : p < O.length) : wr.cell? ⟨g, p, none⟩ = some (.int .i64 (O[p] : Int)) := by
  rw [h.own.cellAt p (by have := h.len; omega), i64s_get O p hp]
theorem OutI.frozen {w wr : World} {g N : Nat} {O : List Nat} (h : OutI w wr g N O) (p : Nat) : wr.frozen? ⟨g, p, none⟩ = false := h.own.frozenAt p
theorem OutI.set {w wr : World} {g N : Nat} {O : List Nat} (h : OutI w wr g N O) (p x : Nat) (z : Int) (hz : z = (x : Int)) : OutI w (wr.setCell ⟨g, p, none⟩ (.int .i64 z)) g N (O.set p x) := by
  subst hz
  refine ⟨?_, by rw [List.length_set]; exact h.len, h.low, h.below.setCell (by exact h.low) _⟩
  have := (World.ownsRow.stored h.own p (.int .i64 (x : Int))).1
  rw [i64s_set] at this
  exact this
theorem OutI.drew {w wr : World} {g N : Nat} {O : List Nat} (h : OutI w wr g N O) (k : Nat) : OutI w (wr.drewN k) g N O := ⟨h.own, h.len, h.low, below_drewN h.below k⟩

end Go.Proofs.YtpoapffbpgnkpaaGreatDoor

namespace Go.Proofs.YtpoapffbpgnkpaaGreatDoor
open Go.RowKit

/-- A slice value holds a list of limbs, at whatever place of its block. -/
def RowI (w : World) (v : Value) (l : List Nat) : Prop :=
  ∃ a cap, v = .slice a l.length cap ∧ l.length ≤ cap ∧ cap ≤ 9223372036854775807 ∧ (l ≠ [] → ∃ b o, a = some ⟨b, o, none⟩ ∧ b < w.heap.size ∧ ∀ i (h : i < l.length), w.cell? ⟨b, o + i, none⟩ = some (.int .i64 (l[i] : Int)))
theorem RowI.later {w w' : World} {v : Value} {l : List Nat} (h : RowI w v l) (hb : Below w.heap.size w w') : RowI w' v l := by
  obtain ⟨a, cap, rfl, hc, hm, hr⟩ := h
  refine ⟨a, cap, rfl, hc, hm, fun hne => ?_⟩
  obtain ⟨b, o, rfl, hlt, hcell⟩ := hr hne
  have := hb.size
  exact ⟨b, o, rfl, by omega, fun i hi => (hb.cell (p := ⟨b, o + i, none⟩) hlt).trans (hcell i hi)⟩
theorem RowI.of_own {w : World} {base : Nat} {v : Value} {l : List Nat} (h : OwnI w base v l) : RowI w v l := by
  obtain ⟨a, cap, rfl, hc, hm, hcells⟩ := h.open
  refine ⟨a, cap, rfl, hc, hm, fun hne => ?_⟩
  have h0 : 0 < l.length := List.length_pos_iff.2 hne
  obtain ⟨b, rfl, hc0⟩ := hcells w (Below.refl _ _) 0 h0
  refine ⟨b, 0, rfl, World.block_lt_of_cell? _ _ hc0, fun i hi => ?_⟩
  obtain ⟨b', e, hc1⟩ := hcells w (Below.refl _ _) i hi
  simp only [Option.some.injEq, Addr.mk.injEq] at e
  obtain ⟨rfl, _⟩ := e
  rw [Nat.zero_add]; exact hc1
/-- From a place on. -/
theorem RowI.drop {w : World} {b n cap : Nat} {l : List Nat} (h : RowI w (.slice (some ⟨b, 0, none⟩) n cap) l) (up : Nat) (hu : up < n) : RowI w (.slice (some ⟨b, up, none⟩) (n - up) (cap - up)) (l.drop up) := by
  obtain ⟨a, cap', e, hc, hm, hr⟩ := h
  simp only [Value.slice.injEq] at e
  obtain ⟨rfl, rfl, rfl⟩ := e
  have hl : (l.drop up).length = l.length - up := List.length_drop ..
  refine ⟨_, _, by rw [hl], by rw [hl]; omega, by omega, fun _ => ?_⟩
  obtain ⟨b', o, e, hlt, hcell⟩ := hr (fun e => by rw [e] at hu; simp at hu)
  simp only [Option.some.injEq, Addr.mk.injEq] at e
  obtain ⟨rfl, rfl, _⟩ := e
  refine ⟨b, up, rfl, hlt, fun i hi => ?_⟩
  rw [List.getElem_drop]
  have := hcell (up + i) (by rw [hl] at hi; omega)
  rw [Nat.zero_add] at this
  exact this
theorem RowI.take {w : World} {a : Option Addr} {n cap : Nat} {l : List Nat} (h : RowI w (.slice a n cap) l) (k : Nat) (hk : k ≤ n) : RowI w (.slice a k cap) (l.take k) := by
  obtain ⟨a', cap', e, hc, hm, hr⟩ := h
  simp only [Value.slice.injEq] at e
  obtain ⟨rfl, rfl, rfl⟩ := e
  have hl : (l.take k).length = k := by rw [List.length_take]; omega
  refine ⟨a, cap, by rw [hl], by omega, hm, fun hne => ?_⟩
  obtain ⟨b, o, rfl, hlt, hcell⟩ := hr (fun e => hne (by rw [e]; simp))
  refine ⟨b, o, rfl, hlt, fun i hi => ?_⟩
  rw [List.getElem_take]
  exact hcell i (by omega)

end Go.Proofs.YtpoapffbpgnkpaaGreatDoor

namespace Cub
/-- The search: low goes, high + 1 does not (or is too great). -/
structure FitInv (X V low high : Nat) : Prop where
  le : low ≤ high
  top : high ≤ 9999
  lo : V * low ≤ X
  hi : high < 9999 → X < V * (high + 1)
theorem FitInv.start (X V : Nat) : FitInv X V 0 9999 := ⟨by omega, by omega, by simp, fun h => by omega⟩
theorem FitInv.up {X V low high q : Nat} (h : FitInv X V low high) (h2 : q ≤ high) (hge : ¬ X < V * q) : FitInv X V q high :=
  ⟨h2, h.top, by omega, h.hi⟩
theorem FitInv.done {X V q : Nat} (h : FitInv X V q q) (h9 : X / V ≤ 9999) (hV : 0 < V) : q = X / V := by
  have h1 : q ≤ X / V := (Nat.le_div_iff_mul_le hV).2 (by rw [Nat.mul_comm]; exact h.lo)
  rcases Nat.lt_or_ge q 9999 with hq | hq
  · have h2 := h.hi hq
    have h3 : X / V < q + 1 := (Nat.div_lt_iff_lt_mul hV).2 (by rw [Nat.mul_comm]; exact h2)
    omega
  · omega
end Cub
namespace Go.Proofs.YtpoapffbpgnkpaaGreatDoor
open Go.RowKit

theorem OwnI.one (w : World) (q : Nat) : OwnI (w.alloc (.cells #[.int .i64 (q : Int)] 3)) w.heap.size (.slice (some ⟨w.heap.size, 0, none⟩) 1 1) [q] := by
  refine ⟨rfl, Or.inr ⟨w.heap.size, 1, #[.int .i64 (q : Int)], rfl, Nat.le_refl _, heap_alloc_new w _, Nat.le_refl _, by unfold maxLen; omega, rfl, rfl⟩⟩

end Go.Proofs.YtpoapffbpgnkpaaGreatDoor

namespace Go.Proofs.YtpoapffbpgnkpaaGreatDoor
open Go.RowKit

/-- How far Power has come: what is there times what is still to come is the power; nothing on the way is M or above. -/
def PowInv (P M out a q : Nat) : Prop := out * a ^ q = P ∧ out < M ∧ (0 < q → a < M) ∧ (out = 0 → a = 0)
theorem PowInv.start (m n M : Nat) (h : m ^ n < M) (h1 : 1 < M) : PowInv (m ^ n) M 1 m n := by
  refine ⟨Nat.one_mul _, h1, fun hn => ?_, fun h => by omega⟩
  by_cases h0 : m = 0
  · omega
  · have : m ^ 1 ≤ m ^ n := Nat.pow_le_pow_right (by omega) hn
    rw [Nat.pow_one] at this; omega
theorem PowInv.last {P M out a : Nat} (h : PowInv P M out a 0) : out = P := by
  have := h.1; rw [Nat.pow_zero, Nat.mul_one] at this; exact this
theorem sq_pow (a q : Nat) : (a * a) ^ (q / 2) * a ^ (q % 2) = a ^ q := by
  rw [← Nat.pow_two, ← Nat.pow_mul, ← Nat.pow_add]
  congr 1; omega
theorem PowInv.outLt {P M out a q : Nat} (h : PowInv P M out a q) (hP : P < M) (hq : 0 < q) : out * a < M := by
  by_cases h0 : a = 0
  · subst h0; have := h.2.1; omega
  · have h1 : a ^ 1 ≤ a ^ q := Nat.pow_le_pow_right (by omega) hq
    rw [Nat.pow_one] at h1
    have h2 : out * a ≤ out * a ^ q := Nat.mul_le_mul_left _ h1
    have := h.1; omega
theorem PowInv.sqLt {P M out a q : Nat} (h : PowInv P M out a q) (hP : P < M) (hq : 2 ≤ q) : a * a < M := by
  by_cases h0 : a = 0
  · subst h0; have := h.2.1; omega
  · have h1 : a ^ 2 ≤ a ^ q := Nat.pow_le_pow_right (by omega) hq
    rw [Nat.pow_two] at h1
    have h2 : 0 < out := Nat.pos_of_ne_zero fun e => h0 (h.2.2.2 e)
    have h3 : a ^ q ≤ out * a ^ q := Nat.le_mul_of_pos_left _ h2
    have := h.1; omega
theorem PowInv.odd {P M out a q : Nat} (h : PowInv P M out a q) (hP : P < M) (hq : q % 2 = 1) : PowInv P M (out * a) (a * a) (q / 2) := by
  refine ⟨?_, h.outLt hP (by omega), fun h2 => h.sqLt hP (by omega), fun e => ?_⟩
  · rw [← h.1, ← sq_pow a q, hq, Nat.pow_one, Nat.mul_assoc, Nat.mul_comm a]
  · rcases Nat.mul_eq_zero.1 e with e | e
    · rw [h.2.2.2 e]
    · rw [e]
theorem PowInv.even {P M out a q : Nat} (h : PowInv P M out a q) (hP : P < M) (hq : q % 2 = 0) (h0 : 0 < q) : PowInv P M out (a * a) (q / 2) := by
  refine ⟨?_, h.2.1, fun h2 => h.sqLt hP (by omega), fun e => ?_⟩
  · rw [← h.1, ← sq_pow a q, hq, Nat.pow_zero, Nat.mul_one]
  · rw [h.2.2.2 e]
/-- The last square is not taken. -/
theorem PowInv.any {P M out a q b : Nat} (h : PowInv P M out a q) (hq : q = 0) (hb : out = 0 → b = 0) : PowInv P M out b q := by
  subst hq
  exact ⟨h.1, h.2.1, fun h => by omega, hb⟩

end Go.Proofs.YtpoapffbpgnkpaaGreatDoor

namespace Go.Proofs.YtpoapffbpgnkpaaGreatDoor
open Go.RowKit
def rangeB (a n : Nat) (p : Nat → Bool) : Bool := (List.range n).all (fun i => p (a + i))
theorem rangeB_spec {a n : Nat} {p : Nat → Bool} (h : rangeB a n p = true) (k : Nat) (h1 : a ≤ k) (h2 : k < a + n) : p k = true := by
  have := List.all_eq_true.1 h (k - a) (by simp; omega)
  simpa [show a + (k - a) = k from by omega] using this
end Go.Proofs.YtpoapffbpgnkpaaGreatDoor

namespace Go.Proofs.YtpoapffbpgnkpaaGreatDoor
open Go.RowKit
def rowsArr : Array Value := #[.string ⟨#[100, 101, 99, 97]⟩, .string ⟨#[100, 97]⟩, .func (.func 40) #[] #[], .string ⟨#[104, 101, 99, 116, 111]⟩, .string ⟨#[104]⟩, .func (.func 41) #[] #[], .string ⟨#[107, 105, 108, 111]⟩, .string ⟨#[107]⟩, .func (.func 42) #[] #[], .string ⟨#[109, 101, 103, 97]⟩, .string ⟨#[77]⟩, .func (.func 43) #[] #[], .string ⟨#[103, 105, 103, 97]⟩, .string ⟨#[71]⟩, .func (.func 44) #[] #[], .string ⟨#[116, 101, 114, 97]⟩, .string ⟨#[84]⟩, .func (.func 45) #[] #[], .string ⟨#[112, 101, 116, 97]⟩, .string ⟨#[80]⟩, .func (.func 46) #[] #[], .string ⟨#[101, 120, 97]⟩, .string ⟨#[69]⟩, .func (.func 47) #[] #[], .string ⟨#[122, 101, 116, 116, 97]⟩, .string ⟨#[90]⟩, .func (.func 48) #[] #[], .string ⟨#[121, 111, 116, 116, 97]⟩, .string ⟨#[89]⟩, .func (.func 49) #[] #[], .string ⟨#[114, 111, 110, 110, 97]⟩, .string ⟨#[82]⟩, .func (.func 50) #[] #[], .string ⟨#[113, 117, 101, 116, 116, 97]⟩, .string ⟨#[81]⟩, .func (.func 51) #[] #[], .string ⟨#[100, 101, 99, 105]⟩, .string ⟨#[100]⟩, .func (.func 52) #[] #[], .string ⟨#[99, 101, 110, 116, 105]⟩, .string ⟨#[99]⟩, .func (.func 53) #[] #[], .string ⟨#[109, 105, 108, 108, 105]⟩, .string ⟨#[109]⟩, .func (.func 54) #[] #[], .string ⟨#[109, 105, 99, 114, 111]⟩, .string ⟨#[206, 188]⟩, .func (.func 55) #[] #[], .string ⟨#[110, 97, 110, 111]⟩, .string ⟨#[110]⟩, .func (.func 56) #[] #[], .string ⟨#[112, 105, 99, 111]⟩, .string ⟨#[112]⟩, .func (.func 57) #[] #[], .string ⟨#[102, 101, 109, 116, 111]⟩, .string ⟨#[102]⟩, .func (.func 58) #[] #[], .string ⟨#[97, 116, 116, 111]⟩, .string ⟨#[97]⟩, .func (.func 59) #[] #[], .string ⟨#[122, 101, 112, 116, 111]⟩, .string ⟨#[122]⟩, .func (.func 60) #[] #[], .string ⟨#[121, 111, 99, 116, 111]⟩, .string ⟨#[121]⟩, .func (.func 61) #[] #[], .string ⟨#[114, 111, 110, 116, 111]⟩, .string ⟨#[114]⟩, .func (.func 62) #[] #[], .string ⟨#[113, 117, 101, 99, 116, 111]⟩, .string ⟨#[113]⟩, .func (.func 63) #[] #[], .string ⟨#[107, 105, 98, 105]⟩, .string ⟨#[75, 105]⟩, .func (.func 64) #[] #[], .string ⟨#[109, 101, 98, 105]⟩, .string ⟨#[77, 105]⟩, .func (.func 65) #[] #[], .string ⟨#[103, 105, 98, 105]⟩, .string ⟨#[71, 105]⟩, .func (.func 66) #[] #[], .string ⟨#[116, 101, 98, 105]⟩, .string ⟨#[84, 105]⟩, .func (.func 67) #[] #[], .string ⟨#[112, 101, 98, 105]⟩, .string ⟨#[80, 105]⟩, .func (.func 68) #[] #[], .string ⟨#[101, 120, 98, 105]⟩, .string ⟨#[69, 105]⟩, .func (.func 69) #[] #[], .string ⟨#[122, 101, 98, 105]⟩, .string ⟨#[90, 105]⟩, .func (.func 70) #[] #[], .string ⟨#[121, 111, 98, 105]⟩, .string ⟨#[89, 105]⟩, .func (.func 71) #[] #[]]
set_option maxRecDepth 100000 in
set_option maxHeartbeats 4000000 in
theorem rows_any (w : World) : Calls Tryz.prog 17 #[] w fun r w' => r = .returned (.slice (some ⟨w.heap.size, 0, none⟩) 32 32) ∧ w' = w.alloc (.cells rowsArr 51) := by
  go_enter Tryz.func17, Tryz.ntmps17
  go_wp2
  go_ret
  exact ⟨rfl, rfl⟩
theorem rows_cell : ∀ k, k < 32 → rowsArr[3 * k]? = some (.string (tbl k).nm) ∧ rowsArr[3 * k + 1]? = some (.string (tbl k).sy) ∧ rowsArr[3 * k + 2]? = some (.func (.func (tbl k).f) #[] #[])
  | 0, _ => ⟨rfl, rfl, rfl⟩
  | 1, _ => ⟨rfl, rfl, rfl⟩
  | 2, _ => ⟨rfl, rfl, rfl⟩
  | 3, _ => ⟨rfl, rfl, rfl⟩
  | 4, _ => ⟨rfl, rfl, rfl⟩
  | 5, _ => ⟨rfl, rfl, rfl⟩
  | 6, _ => ⟨rfl, rfl, rfl⟩
  | 7, _ => ⟨rfl, rfl, rfl⟩
  | 8, _ => ⟨rfl, rfl, rfl⟩
  | 9, _ => ⟨rfl, rfl, rfl⟩
  | 10, _ => ⟨rfl, rfl, rfl⟩
  | 11, _ => ⟨rfl, rfl, rfl⟩
  | 12, _ => ⟨rfl, rfl, rfl⟩
  | 13, _ => ⟨rfl, rfl, rfl⟩
  | 14, _ => ⟨rfl, rfl, rfl⟩
  | 15, _ => ⟨rfl, rfl, rfl⟩
  | 16, _ => ⟨rfl, rfl, rfl⟩
  | 17, _ => ⟨rfl, rfl, rfl⟩
  | 18, _ => ⟨rfl, rfl, rfl⟩
  | 19, _ => ⟨rfl, rfl, rfl⟩
  | 20, _ => ⟨rfl, rfl, rfl⟩
  | 21, _ => ⟨rfl, rfl, rfl⟩
  | 22, _ => ⟨rfl, rfl, rfl⟩
  | 23, _ => ⟨rfl, rfl, rfl⟩
  | 24, _ => ⟨rfl, rfl, rfl⟩
  | 25, _ => ⟨rfl, rfl, rfl⟩
  | 26, _ => ⟨rfl, rfl, rfl⟩
  | 27, _ => ⟨rfl, rfl, rfl⟩
  | 28, _ => ⟨rfl, rfl, rfl⟩
  | 29, _ => ⟨rfl, rfl, rfl⟩
  | 30, _ => ⟨rfl, rfl, rfl⟩
  | 31, _ => ⟨rfl, rfl, rfl⟩
  | n + 32, h => absurd h (by omega)
end Go.Proofs.YtpoapffbpgnkpaaGreatDoor

namespace Go.Proofs.YtpoapffbpgnkpaaGreatDoor
open Go.RowKit

theorem info28 : (Tryz.prog.info? 30).map (fun i => (i.zero, i.size, i.bytes)) = some (some (.agg #[.string ⟨#[]⟩, .string ⟨#[]⟩, .string ⟨#[]⟩, .string ⟨#[]⟩, .bool false]), 5, 72) := by kernel_rfl
theorem under22 : Tryz.prog.underlying 55 = some (.slice 30) := by kernel_rfl
/-- The five cells of a prefix. -/
def cellsP (k : Nat) : List Value := [.string (tbl k).nm, .string (tbl k).sy, .string (tbl k).fn, .string (tbl k).fd, .bool (tbl k).bi]
def allL (n : Nat) : List Value := (List.range n).flatMap cellsP
theorem allL_succ (n : Nat) : allL (n + 1) = allL n ++ cellsP n := by
  unfold allL
  rw [List.range_succ, List.flatMap_append]
  simp
theorem news5 (W : World) (a b c d e : Value) : ∀ j u, [a, b, c, d, e][j]? = some u → (W.alloc (.cells #[a, b, c, d, e] 30)).cell? ((⟨W.heap.size, 0, none⟩ : Addr).add j) = some u := by
  intro j u hu
  rcases j with _ | _ | _ | _ | _ | j <;> simp at hu
  all_goals (subst hu; simp [Addr.add, go_sem])
theorem one5 (a b c d : ByteArray) (e : Bool) : ∀ u ∈ [Value.string a, .string b, .string c, .string d, .bool e], u.oneCell' = true := by
  intro u hu
  simp only [List.mem_cons, List.not_mem_nil, or_false] at hu
  rcases hu with rfl | rfl | rfl | rfl | rfl <;> rfl
theorem own_later {w w' : World} {base e s n : Nat} {v : Value} {xs : List Value} (h : w.ownsRow base e s v n xs) (hb : Below w.heap.size w w') : w'.ownsRow base e s v n xs := by
  obtain ⟨hx, h2⟩ := h
  refine ⟨hx, ?_⟩
  rcases h2 with h2 | ⟨g, cap, cur, ee, hbs, hg, r⟩
  · exact Or.inl h2
  · exact Or.inr ⟨g, cap, cur, ee, hbs, (hb.block g (Array.getElem?_eq_some_iff.1 hg).1).trans hg, r⟩
theorem rows_at (W W' : World) (hb : Below (W.heap.size + 1) (W.alloc (.cells rowsArr 51)) W') (k : Nat) (hk : k < 32) : W'.cell? ⟨W.heap.size, k * 3, none⟩ = some (.string (tbl k).nm) ∧ W'.cell? ⟨W.heap.size, k * 3 + 1, none⟩ = some (.string (tbl k).sy) ∧ W'.cell? ⟨W.heap.size, k * 3 + 2, none⟩ = some (.func (.func (tbl k).f) #[] #[]) := by
  obtain ⟨h0, h1, h2⟩ := rows_cell k hk
  rw [Nat.mul_comm] at h0 h1 h2
  have e : ∀ i u, rowsArr[i]? = some u → W'.cell? ⟨W.heap.size, i, none⟩ = some u := fun i u hu => by
    rw [hb.cell (p := ⟨W.heap.size, i, none⟩) (by show W.heap.size < W.heap.size + 1; omega)]
    simp only [World.cell?, heap_alloc_new]
    simpa using hu
  exact ⟨e _ _ h0, e _ _ h1, e _ _ h2⟩

set_option maxRecDepth 100000 in
set_option maxHeartbeats 4000000 in
theorem all_any (w : World) (htab : Tab w) : Calls Tryz.prog 23 #[] w fun r w' => ∃ v, r = .returned v ∧ w'.ownsRow (w.heap.size + 1) 30 5 v 32 (allL 32) ∧ Below w.heap.size w w' := by
  obtain ⟨W1, hW1⟩ : ∃ W1, W1 = w.alloc (.cells rowsArr 51) := ⟨_, rfl⟩
  have HRO : Hid (Calls Tryz.prog 17 #[] w fun r w' => r = .returned (.slice (some ⟨w.heap.size, 0, none⟩) 32 32) ∧ w' = W1) := by rw [hW1]; exact rows_any w
  have HW1 := hide hW1
  have hzz : W1.heap.size = w.heap.size + 1 := by rw [hW1]; simp
  have HZ := hide hzz
  clear hzz
  have HB1 : Hid (Below w.heap.size w W1) := by rw [hW1]; exact (Below.refl _ _).alloc (Nat.le_refl _) _
  have HTW := hide htab
  obtain ⟨i0, hi, hz0, hz1, hz2⟩ := info_parts info28
  clear htab hW1
  go_enter Tryz.func23, Tryz.ntmps23
  go_upto_region 3 with (go_at_call 17; go_must (refine (unhide HRO).mono ?_; rintro e w1 ⟨rfl, rfl⟩))
  go_loopw [1, 6] (fun s1 s6 wr => ∃ (k : Nat) (v : Value), k ≤ 32 ∧ v = s1 ∧ s6 = .int .i64 (k : Int) ∧ Hid (wr.ownsRow (w.heap.size + 1) 30 5 v k (allL k)) ∧ Hid (Below (w.heap.size + 1) w1 wr)) (fun _ s6 _ => 32 - (intOf s6).toNat)
  case atStart => exact ⟨0, _, by omega, rfl, rfl, World.ownsRow_nil _ _ _ _, Below.refl _ _⟩
  case round =>
    obtain ⟨k, v, hk, rfl, rfl, HO, HB⟩ := hrel
    have HBW : Hid (Below w.heap.size w wr) := (unhide HB1).trans ((unhide HB).mono (by omega))
    have HSZ : Hid (w.heap.size + 1 ≤ wr.heap.size) := by have h1 := (unhide HB).size; have h2 := unhide HZ; show _ ≤ _; omega
    by_cases hk32 : k < 32
    · have hkI : (k : Int) < 32 := by omega
      have hk0 : (0 : Int) ≤ (k : Int) := by omega
      obtain ⟨c0, c1, c2⟩ := rows_at w wr (by have h := unhide HB; rw [unhide HW1] at h; exact h) k hk32
      have HT := hide (fun W (ht : Tab W) => told_any k hk32 W ht)
      unfold rowV RowV preV at HT
      have HN := hide (allL_succ k)
      unfold cellsP at HN
      generalize (tbl k).nm = nm at *
      generalize (tbl k).sy = sy at *
      generalize (tbl k).f = f at *
      generalize (tbl k).fn = fn at *
      generalize (tbl k).fd = fd at *
      generalize (tbl k).bi = bi at *
      go_upto_region 5 with fail
      obtain ⟨V2, hV2⟩ : ∃ V2, V2 = wr.alloc (.cells #[.string nm, .string sy, .func (.func f) #[] #[]] 51) := ⟨_, rfl⟩
      have hb2 : Below wr.heap.size wr V2 := by rw [hV2]; exact (Below.refl _ _).alloc (Nat.le_refl _) _
      have HP2 : Hid (FBox V2 wr.heap.size (.string nm) (.string sy) (.func (.func f) #[] #[])) := by rw [hV2]; exact ⟨by simp [go_sem], by simp [go_sem], by simp [go_sem], by simp [go_sem], by simp [go_sem], by simp [go_sem]⟩
      have HO2 : Hid (V2.ownsRow (w.heap.size + 1) 30 5 v k (allL k)) := own_later (unhide HO) hb2
      have HB2 : Hid (Below (w.heap.size + 1) w1 V2) := (unhide HB).trans (hb2.mono (unhide HSZ))
      have HW2 : Hid (Below w.heap.size w V2) := (unhide HBW).trans (hb2.mono (unhide HBW).size)
      rw [← hV2]
      clear hV2 hb2 c0 c1 c2 HO HB HBW
      generalize wr.heap.size = g3 at *
      have t0 := (unhide HP2).c0; have t1 := (unhide HP2).c1; have t2 := (unhide HP2).c2
      go_wp2_with (first
        | (go_at_call 18; go_must (refine (unhide HT _ ((unhide HTW).later (unhide HW2))).mono ?_; rintro e wt ⟨rfl, hbt⟩; have HO3 : Hid (wt.ownsRow (w.heap.size + 1) 30 5 v k (allL k)) := own_later (unhide HO2) hbt; have HB3 : Hid (Below (w.heap.size + 1) w1 wt) := (unhide HB2).trans (hbt.mono (by have h1 := (unhide HB2).size; have h2 := unhide HZ; omega)); clear hbt t0 t1 t2))
        | (at_builtin; refine wpList_append_own _ rfl _ _ 55 rfl (w.heap.size + 1) 30 i0 (.agg #[.string ⟨#[]⟩, .string ⟨#[]⟩, .string ⟨#[]⟩, .string ⟨#[]⟩, .bool false]) 5 72 under22 hi hz0 hz1 hz2 rfl (by decide) _ k (allL k) rfl (own_later (unhide HO3) ((Below.refl _ _).alloc (Nat.le_refl _) _)) ⟨wt.heap.size, 0, none⟩ 1 1 [.string nm, .string sy, .string fn, .string fd, .bool bi] rfl rfl (news5 _ _ _ _ _ _) (one5 _ _ _ _ _) (by unfold maxLen; omega) (by omega) (by have h1 := (unhide HB3).size; have h2 := unhide HZ; simp; omega) ?_; intro v2 wa hown hgrow hnil; have HOW := hide hown; have HB4 : Hid (Below (w.heap.size + 1) w1 wa) := ((unhide HB3).alloc (by have h1 := (unhide HB3).size; have h2 := unhide HZ; omega) _).grown hgrow (by have h1 := (unhide HB3).size; have h2 := unhide HZ; simp; omega) (fun j hj => ((unhide HO3).lt j hj).1); clear hown hgrow hnil))
      go_roundw
      case rel =>
        refine ⟨k + 1, v2, by omega, rfl, by go_num, ?_, HB4⟩
        have h := unhide HOW
        rw [← unhide HN] at h
        exact h
      case measure => simp [intOf]; omega
    · have hkI : ¬ (k : Int) < 32 := by omega
      have HK : Hid (k = 32) := by show k = 32; omega
      go_wp2_with fail
      go_ret
      refine ⟨v, rfl, ?_, unhide HBW⟩
      have h := unhide HO
      rw [unhide HK] at h
      exact h
end Go.Proofs.YtpoapffbpgnkpaaGreatDoor

namespace Go.Proofs.YtpoapffbpgnkpaaGreatDoor
open Go.RowKit

/-- The three cells of one row. -/
structure Row3 (W : World) (g k : Nat) (a b c : Value) : Prop where
  c0 : W.cell? ⟨g, k * 3, none⟩ = some a
  c1 : W.cell? ⟨g, k * 3 + 1, none⟩ = some b
  c2 : W.cell? ⟨g, k * 3 + 2, none⟩ = some c
theorem Row3.later {W V : World} {B g k : Nat} {a b c : Value} (h : Row3 W g k a b c) (hb : Below B W V) (hg : g < B) : Row3 V g k a b c :=
  ⟨(hb.cell (p := ⟨g, k * 3, none⟩) hg).trans h.c0, (hb.cell (p := ⟨g, k * 3 + 1, none⟩) hg).trans h.c1, (hb.cell (p := ⟨g, k * 3 + 2, none⟩) hg).trans h.c2⟩

end Go.Proofs.YtpoapffbpgnkpaaGreatDoor
