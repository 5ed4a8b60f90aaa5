/- The document's fits: how often a number goes into another from a place on. -/
import Derived.Test.YtijifpbpjinmhaaGreatDoorRefMinus
import Derived.Test.YtijifpbpjinmhaaGreatDoorPow
import Derived.Deep.QuietTactic
import Derived.BigQuiet
import Derived.WalkSmall
import Derived.Deep.Cut
set_option maxHeartbeats 2000000
set_option maxRecDepth 100000
namespace Cub
theorem lval_split4 (B : Nat) (l : List Nat) (i : Nat) (h : i ≤ l.length) : lval B l = lval B (l.take i) + B ^ i * lval B (l.drop i) := by
  have e := lval_append B (l.take i) (l.drop i)
  rw [List.take_append_drop, List.length_take, Nat.min_eq_left h] at e
  exact e
theorem lval_drop (B : Nat) (l : List Nat) (i : Nat) (h : i < l.length) : lval B (l.drop i) = l[i] + B * lval B (l.drop (i + 1)) := by
  rw [List.drop_eq_getElem_cons h]; rfl
theorem limbs_drop4 {B : Nat} {l : List Nat} (h : limbs B l) (i : Nat) : limbs B (l.drop i) := fun x hx => h x (List.mem_of_mem_drop hx)
theorem limbs_take4 {B : Nat} {l : List Nat} (h : limbs B l) (i : Nat) : limbs B (l.take i) := fun x hx => h x (List.mem_of_mem_take hx)
/-- Of two rows of one length, alike from i + 1 on, the limb at i tells. -/
theorem less_at {B : Nat} {x y : List Nat} {i : Nat} (hx : limbs B x) (hi : i < x.length) (hj : i < y.length) (hd : x.drop (i + 1) = y.drop (i + 1)) (h : x[i] < y[i]) : lval B x < lval B y := by
  rw [lval_split4 B x i (by omega), lval_split4 B y i (by omega), lval_drop B x i hi, lval_drop B y i hj, hd]
  have h1 := lval_lt (limbs_take4 hx i)
  rw [List.length_take, Nat.min_eq_left (by omega)] at h1
  have h2 : B ^ i * (x[i] + B * lval B (y.drop (i + 1))) + B ^ i ≤ B ^ i * (y[i] + B * lval B (y.drop (i + 1))) := by
    rw [← Nat.mul_succ]; exact Nat.mul_le_mul_left _ (by omega)
  omega
theorem drop_same {x y : List Nat} {i : Nat} (hi : i < x.length) (hj : i < y.length) (hd : x.drop (i + 1) = y.drop (i + 1)) (h : x[i] = y[i]) : x.drop i = y.drop i := by
  rw [List.drop_eq_getElem_cons hi, List.drop_eq_getElem_cons hj, hd, h]
/-- Of two rows without noughts at the top the longer one is the greater. -/
theorem less_len {B : Nat} {x y : List Nat} (hB : 1 < B) (hx : limbs B x) (hy : normal B y) (h : x.length < y.length) : lval B x < lval B y := by
  have h1 := lval_lt hx
  have h2 := normal_ge hy (by intro e; rw [e] at h; simp at h)
  have h3 : B ^ x.length ≤ B ^ (y.length - 1) := Nat.pow_le_pow_right (by omega) (by omega)
  omega
/-- How far one number has been taken q times from another, from place 'up' on: D is what stands, c is owed. -/
structure RefTakeInv (X Y D : List Nat) (up q c k : Nat) : Prop where
  len : D.length = X.length
  lim : limbs 10000 D
  low : D.take up = X.take up
  rest : D.drop (up + k) = X.drop (up + k)
  eq : lval 10000 ((D.drop up).take k) + q * lval 10000 (Y.take k) = lval 10000 ((X.drop up).take k) + c * 10000 ^ k
  owed : c ≤ 9999
theorem RefTakeInv.start {X : List Nat} (Y : List Nat) (up q : Nat) (hX : limbs 10000 X) : RefTakeInv X Y X up q 0 0 :=
  ⟨rfl, hX, rfl, rfl, by simp [lval], by omega⟩
theorem take_next (l : List Nat) (up k : Nat) (h : up + k < l.length) : lval 10000 ((l.drop up).take (k + 1)) = lval 10000 ((l.drop up).take k) + 10000 ^ k * l[up + k] := by
  have hk : k < (l.drop up).length := by rw [List.length_drop]; omega
  rw [List.take_succ_eq_append_getElem hk, lval_snoc, List.length_take, Nat.min_eq_left (Nat.le_of_lt hk), List.getElem_drop]
theorem take_getD4 (l : List Nat) (i : Nat) : lval 10000 (l.take (i + 1)) = lval 10000 (l.take i) + 10000 ^ i * l.getD i 0 := by
  by_cases h : i < l.length
  · rw [List.take_succ_eq_append_getElem h, lval_snoc, List.length_take, Nat.min_eq_left (by omega)]; simp [List.getD, h]
  · rw [List.take_of_length_le (by omega), List.take_of_length_le (by omega)]; simp [List.getD, List.getElem?_eq_none (Nat.le_of_not_lt h)]
theorem RefTakeInv.step {X Y D : List Nat} {up q c k d c' : Nat} (h : RefTakeInv X Y D up q c k) (hk : up + k < D.length) (hd : d < 10000) (hc : c' ≤ 9999)
    (he : D[up + k] + c' * 10000 = d + c + q * Y.getD k 0) : RefTakeInv X Y (D.set (up + k) d) up q c' (k + 1) := by
  have hl := h.len
  have hkX : up + k < X.length := by omega
  have hDX : D[up + k] = X[up + k] := by
    have := h.rest
    rw [List.drop_eq_getElem_cons hk, List.drop_eq_getElem_cons hkX] at this
    exact (List.cons.inj this).1
  refine ⟨by rw [List.length_set]; exact hl, limbs_set h.lim _ _ hd, ?_, ?_, ?_, hc⟩
  · rw [List.take_set_of_le (by omega)]; exact h.low
  · rw [List.drop_set_of_lt (by omega), ← Nat.add_assoc]
    have := h.rest
    rw [List.drop_eq_getElem_cons hk, List.drop_eq_getElem_cons hkX] at this
    exact (List.cons.inj this).2
  · have e1 : lval 10000 (((D.set (up + k) d).drop up).take (k + 1)) = lval 10000 ((D.drop up).take k) + 10000 ^ k * d := by
      rw [take_next _ up k (by rw [List.length_set]; exact hk), List.getElem_set_self]
      congr 2
      rw [List.drop_set]
      split
      · omega
      · rw [List.take_set_of_le (by omega)]
    rw [e1, take_getD4, take_next X up k hkX]
    have e := h.eq
    rw [hDX] at he
    generalize X[up + k] = xv at *
    generalize Y.getD k 0 = yv at *
    generalize lval 10000 ((D.drop up).take k) = a at *
    generalize lval 10000 (Y.take k) = b at *
    generalize lval 10000 ((X.drop up).take k) = x at *
    rw [Nat.pow_succ]
    generalize (10000 : Nat) ^ k = p at *
    have h1 : p * (xv + c' * 10000) = p * (d + c + q * yv) := by rw [he]
    have h2 : p * (xv + c' * 10000) = p * xv + c' * (p * 10000) := by grind
    have h3 : p * (d + c + q * yv) = p * d + c * p + q * (p * yv) := by grind
    rw [h2, h3] at h1
    rw [Nat.mul_add]
    omega
/-- The end: nothing is owed. -/
theorem RefTakeInv.done {X Y D : List Nat} {up q k : Nat} (h : RefTakeInv X Y D up q 0 k) (hk : Y.length ≤ k) (hup : up + k ≤ X.length) : lval 10000 (D.drop up) + q * lval 10000 Y = lval 10000 (X.drop up) := by
  have e := h.eq
  rw [List.take_of_length_le hk, Nat.zero_mul, Nat.add_zero] at e
  have hl := h.len
  rw [lval_split4 10000 (D.drop up) k (by rw [List.length_drop]; omega), lval_split4 10000 (X.drop up) k (by rw [List.length_drop]; omega), List.drop_drop, List.drop_drop, h.rest]
  omega
theorem RefTakeInv.owes {X Y D : List Nat} {up q c k : Nat} (h : RefTakeInv X Y D up q c k) (hk : Y.length ≤ k) (hup : up + k = X.length) (hle : q * lval 10000 Y ≤ lval 10000 (X.drop up)) : c = 0 := by
  have e := h.eq
  have hl := h.len
  rw [List.take_of_length_le hk, List.take_of_length_le (by rw [List.length_drop]; omega), List.take_of_length_le (by rw [List.length_drop]; omega)] at e
  have h1 := lval_lt (limbs_drop4 h.lim up)
  rw [List.length_drop, hl, show X.length - up = k by omega] at h1
  rcases Nat.eq_zero_or_pos c with hc | hc
  · exact hc
  · have : 10000 ^ k ≤ c * 10000 ^ k := Nat.le_mul_of_pos_left _ hc
    omega
/-- How far a number A has been divided by V: Q is found from 'up' on (the first 'up' are noughts), X is left. -/
structure DivInv (A V : Nat) (X Q : List Nat) (n up : Nat) : Prop where
  lenX : X.length = n
  lenQ : Q.length = n
  limX : limbs 10000 X
  limQ : limbs 10000 Q
  zero : ∀ i (h : i < Q.length), i < up → Q[i] = 0
  sum : lval 10000 X + V * lval 10000 Q = A
  rest : lval 10000 (X.drop up) < V
theorem DivInv.start {A V : Nat} {X : List Nat} {up : Nat} (hX : limbs 10000 X) (hA : lval 10000 X = A) (hr : lval 10000 (X.drop up) < V) : DivInv A V X (List.replicate X.length 0) X.length up :=
  ⟨rfl, by simp, hX, limbs_zeros _ _ (by decide), fun i h _ => by simp, by rw [lval_zeros, Nat.mul_zero, Nat.add_zero]; exact hA, hr⟩
theorem DivInv.quo {A V : Nat} {X Q : List Nat} {n up : Nat} (h : DivInv A V X Q n (up + 1)) (hup : up < n) : lval 10000 (X.drop up) / V ≤ 9999 := by
  have h1 : up < X.length := by rw [h.lenX]; exact hup
  rw [lval_drop 10000 X up h1]
  have h2 : X[up] < 10000 := h.limX _ (List.getElem_mem h1)
  have h3 := h.rest
  have h4 : X[up] + 10000 * lval 10000 (X.drop (up + 1)) < 10000 * V := by omega
  have := (Nat.div_lt_iff_lt_mul (by omega : 0 < V)).2 h4
  omega
theorem DivInv.step {A V : Nat} {X Q D : List Nat} {n up q : Nat} (h : DivInv A V X Q n (up + 1)) (hup : up < n) (hq : q = lval 10000 (X.drop up) / V)
    (hl : D.length = X.length) (hD : limbs 10000 D) (hlow : D.take up = X.take up) (hs : lval 10000 (D.drop up) + q * V = lval 10000 (X.drop up)) : DivInv A V D (Q.set up q) n up := by
  have hV : 0 < V := by have := h.rest; omega
  have h1 : up < X.length := by rw [h.lenX]; exact hup
  have h2 : up < Q.length := by rw [h.lenQ]; exact hup
  have h9 := h.quo hup
  refine ⟨hl.trans h.lenX, by rw [List.length_set]; exact h.lenQ, hD, limbs_set h.limQ _ _ (by omega), ?_, ?_, ?_⟩
  · intro i hi hlt
    rw [List.getElem_set_ne (by omega)]
    exact h.zero i (by rw [List.length_set] at hi; exact hi) (by omega)
  · have e1 := lval_set 10000 Q up q h2
    rw [h.zero up h2 (by omega), Nat.mul_zero, Nat.add_zero] at e1
    have e2 := h.sum
    rw [lval_split4 10000 X up (by omega)] at e2
    rw [lval_split4 10000 D up (by omega), hlow, e1]
    have e3 : 10000 ^ up * lval 10000 (X.drop up) = 10000 ^ up * lval 10000 (D.drop up) + V * (10000 ^ up * q) := by rw [← hs]; grind
    rw [Nat.mul_add]
    omega
  · have := Nat.div_add_mod (lval 10000 (X.drop up)) V
    have hm := Nat.mod_lt (lval 10000 (X.drop up)) hV
    rw [← hq, Nat.mul_comm V q] at this
    omega
theorem DivInv.done {A V : Nat} {X Q : List Nat} {n : Nat} (h : DivInv A V X Q n 0) : lval 10000 Q = A / V ∧ lval 10000 X = A % V := by
  have h1 := h.sum
  have h2 := h.rest
  rw [List.drop_zero] at h2
  have hV : 0 < V := by omega
  have e := (Nat.div_mod_unique hV (a := A) (d := lval 10000 Q) (c := lval 10000 X)).2 ⟨h1, h2⟩
  exact ⟨e.1.symm, e.2.symm⟩
end Cub
namespace Go.Proofs.YtijifpbpjinmhaaGreatDoor
open Go.RowKit
theorem i64s_made (n : Nat) : (madeCells (Value.int .i64 0).cells (n * 1)).toList = i64s (List.replicate n 0) := by
  rw [show (Value.int .i64 0).cells = #[Value.int .i64 0] from rfl, toList_madeCells_one]
  simp [i64s]
/-- What stands of the row that is filled. -/
structure OutI (w wr : World) (g N : Nat) (O : List Nat) : Prop where
  own : wr.ownsRow w.heap.size 3 1 (.slice (some ⟨g, 0, none⟩) N N) N (i64s O)
  len : O.length = N
  low : w.heap.size ≤ g
  below : Below w.heap.size w wr
theorem OutI.cell {w wr : World} {g N : Nat} {O : List Nat} (h : OutI w wr g N O) (p : Nat) (hp : p < O.length) : wr.cell? ⟨g, p, none⟩ = some (.int .i64 (O[p] : Int)) := by
  rw [h.own.cellAt p (by have := h.len; omega), i64s_get O p hp]
theorem OutI.frozen {w wr : World} {g N : Nat} {O : List Nat} (h : OutI w wr g N O) (p : Nat) : wr.frozen? ⟨g, p, none⟩ = false := h.own.frozenAt p
theorem OutI.set {w wr : World} {g N : Nat} {O : List Nat} (h : OutI w wr g N O) (p x : Nat) (z : Int) (hz : z = (x : Int)) : OutI w (wr.setCell ⟨g, p, none⟩ (.int .i64 z)) g N (O.set p x) := by
  subst hz
  refine ⟨?_, by rw [List.length_set]; exact h.len, h.low, h.below.setCell (by exact h.low) _⟩
  have := (World.ownsRow.stored h.own p (.int .i64 (x : Int))).1
  rw [i64s_set] at this
  exact this
theorem OutI.drew {w wr : World} {g N : Nat} {O : List Nat} (h : OutI w wr g N O) (k : Nat) : OutI w (wr.drewN k) g N O := ⟨h.own, h.len, h.low, below_drewN h.below k⟩
theorem refTimes_any (vx vy : Value) (bx by' : Nat) (lx ly : List Nat) (w : World) (hox : OwnI w bx vx lx) (hoy : OwnI w by' vy ly) (hlx : Cub.limbs 10000 lx) (hly : Cub.limbs 10000 ly) (hnx : lx.length ≤ 1000000) (hny : ly.length ≤ 1000000) :
    Calls Tryz.prog 118 #[vx, vy] w fun e w' => ∃ v l, e = .returned v ∧ OwnI w' w.heap.size v l ∧ Cub.normal 10000 l ∧ Cub.lval 10000 l = Cub.lval 10000 lx * Cub.lval 10000 ly ∧ l.length ≤ lx.length + ly.length ∧ Below w.heap.size w w' := by
  obtain ⟨ax, cx, rfl, _, _, hcx⟩ := hox.open
  obtain ⟨ay, cy, rfl, _, _, hcy⟩ := hoy.open
  have HX := hide (And.intro hlx hcx)
  have HY := hide (And.intro hly hcy)
  obtain ⟨nx, hnx'⟩ : ∃ nx, nx = lx.length := ⟨_, rfl⟩
  obtain ⟨ny, hny'⟩ : ∃ ny, ny = ly.length := ⟨_, rfl⟩
  rw [← hnx'] at hnx ⊢
  rw [← hny'] at hny ⊢
  have HNX := hide hnx'
  have HNY := hide hny'
  clear hox hoy hlx hly hcx hcy hnx' hny'
  obtain ⟨i0, hi, hz0, hz1, hz2⟩ := info_parts Tryz.info3
  go_enter Tryz.func118, Tryz.ntmps118
  go_wp2_with (at_make; refine wpList_make_full _ rfl _ _ 138 rfl w.heap.size 3 i0 (.int .i64 0) 1 Tryz.underlying138 hi hz0 hz1 .i64 .i64 _ _ (nx + ny) rfl rfl (by omega) (by omega) (by rw [hz2]; omega) (by unfold maxLen; omega) (Nat.le_refl _) ?_; intro w3 hown3 hgrow3)
  have hO3 : OutI w w3 w.heap.size (nx + ny) (List.replicate (nx + ny) 0) := by
    refine ⟨?_, List.length_replicate .., Nat.le_refl _, (Below.refl _ _).grown hgrow3 (Nat.le_refl _) (fun k hk => by cases hk)⟩
    rw [i64s_made] at hown3
    exact hown3
  have HO3 := hide hO3
  clear hown3 hgrow3 hO3
  generalize hg : w.heap.size = g at *
  have HG := hide hg
  clear hg
  go_loopw [6] (fun t wr => ∃ (i : Nat) (O : List Nat), t = .int .i64 (i : Int) ∧ i ≤ nx ∧ Hid (OutI w wr g (nx + ny) O) ∧ Hid (Cub.limbs 10000 O ∧ Cub.lval 10000 O = Cub.lval 10000 (lx.take i) * Cub.lval 10000 ly)) (fun t _ => nx - (intOf t).toNat)
  case atStart => exact ⟨0, _, rfl, by omega, HO3, ⟨Cub.limbs_zeros _ _ (by decide), by rw [Cub.lval_zeros]; simp [Cub.lval]⟩⟩
  case round =>
    obtain ⟨i, O, rfl, hi', HO, HV⟩ := hrel
    by_cases hin : i < nx
    · have hil : i < lx.length := by have := unhide HNX; omega
      obtain ⟨xv, hxv⟩ : ∃ xv, xv = lx[i] := ⟨_, rfl⟩
      have hxB : xv < 10000 := by rw [hxv]; exact (unhide HX).1 _ (List.getElem_mem hil)
      have HXV : Hid (lx.getD i 0 = xv) := by rw [hxv, List.getD_eq_getElem?_getD, List.getElem?_eq_getElem hil]; exact rfl
      obtain ⟨bx', rfl, _⟩ := (unhide HX).2 w (Below.refl _ _) i hil
      have HXC : Hid (∀ W, Below w.heap.size w W → W.cell? ⟨bx', i, none⟩ = some (.int .i64 (xv : Int))) := fun W hW => by
        obtain ⟨b, e, hc⟩ := (unhide HX).2 W hW i hil
        simp only [Option.some.injEq, Addr.mk.injEq, and_true] at e
        subst e
        rw [hxv]; exact hc
      have HA0 : Hid (Cub.Acc 10000 O 0 (i + 0) (Cub.lval 10000 (lx.take i) * Cub.lval 10000 ly + 10000 ^ i * (xv * Cub.lval 10000 (ly.take 0)))) := by
        refine ⟨(unhide HV).1, ?_⟩
        rw [(unhide HV).2]; simp [Cub.lval]
      generalize hV0 : Cub.lval 10000 (lx.take i) * Cub.lval 10000 ly = V0 at *
      have HV0 := hide hV0
      clear hxv hV0
      go_wp2
      go_loopw [7, 8] (fun c t wq => ∃ (k j : Nat) (P : List Nat), c = .int .i64 (k : Int) ∧ t = .int .i64 (j : Int) ∧ j ≤ ny ∧ k < 10000 ∧ Hid (OutI w wq g (nx + ny) P) ∧ Hid (Cub.Acc 10000 P k (i + j) (V0 + 10000 ^ i * (xv * Cub.lval 10000 (ly.take j))))) (fun _ t _ => ny - (intOf t).toNat)
      case atStart => exact ⟨0, 0, O, rfl, rfl, by omega, by omega, HO, HA0⟩
      case round =>
        obtain ⟨k, j, P, rfl, rfl, hj, hk, HP, HA⟩ := hrel
        by_cases hjn : j < ny
        · have hpl : i + j < P.length := by rw [(unhide HP).len]; omega
          have hjl : j < ly.length := by have := unhide HNY; omega
          obtain ⟨ov, hov⟩ : ∃ ov, ov = P[i + j] := ⟨_, rfl⟩
          have hoB : ov < 10000 := by rw [hov]; exact (unhide HA).lim _ (List.getElem_mem hpl)
          have hco := (unhide HP).cell (i + j) hpl
          rw [← hov] at hco
          have hfo := (unhide HP).frozen (i + j)
          have hcx := unhide HXC wr (unhide HP).below
          obtain ⟨yv, hyv⟩ : ∃ yv, yv = ly[j] := ⟨_, rfl⟩
          have hyB : yv < 10000 := by rw [hyv]; exact (unhide HY).1 _ (List.getElem_mem hjl)
          obtain ⟨by2, rfl, hcy⟩ := (unhide HY).2 wr (unhide HP).below j hjl
          rw [← hyv] at hcy
          have HYV : Hid (ly.getD j 0 = yv) := by rw [hyv, List.getD_eq_getElem?_getD, List.getElem?_eq_getElem hjl]; exact rfl
          have hin' : (i : Int) < (nx : Int) := by omega
          have hjn' : (j : Int) < (ny : Int) := by omega
          obtain ⟨m, hm⟩ : ∃ m, m = xv * yv := ⟨_, rfl⟩
          have hmB : m ≤ 99980001 := by rw [hm]; exact Nat.mul_le_mul (show xv ≤ 9999 by omega) (show yv ≤ 9999 by omega)
          have hmul : (xv : Int) * (yv : Int) = (m : Int) := by rw [hm]; simp
          have HA' : Hid (Cub.Acc 10000 (P.set (i + j) ((k + ov + m) % 10000)) ((k + ov + m) / 10000) (i + (j + 1)) (V0 + 10000 ^ i * (xv * Cub.lval 10000 (ly.take (j + 1))))) := by
            have h := (unhide HA).step (by decide) hpl (xv * ly.getD j 0)
            rw [Cub.val_inner, unhide HYV, ← hm, ← hov] at h
            exact h
          have hk' : (k + ov + m) / 10000 < 10000 := by rw [hm]; exact Cub.carry_lt 10000 k ov xv yv hk hoB hxB hyB
          clear hov hyv hjl hm hpl
          go_wp2
          go_quiet (fail)
          go_wp2
          go_roundw
          case rel => exact ⟨(k + ov + m) / 10000, j + 1, P.set (i + j) ((k + ov + m) % 10000), by go_num, by go_num, by omega, hk', ((unhide HP).set (i + j) ((k + ov + m) % 10000) _ (by omega)).drew _, HA'⟩
          case measure => simp [intOf]; omega
        · have hje : j = ny := by omega
          subst hje
          have HA1 : Hid (Cub.Acc 10000 P k (i + j) (Cub.lval 10000 (lx.take (i + 1)) * Cub.lval 10000 ly)) := by
            have h := unhide HA
            rw [List.take_of_length_le (by have := unhide HNY; omega), ← unhide HV0, ← unhide HXV, Cub.val_outer] at h
            exact h
          have HVB : Hid (Cub.lval 10000 (lx.take (i + 1)) * Cub.lval 10000 ly < 10000 ^ (nx + j)) := by
            rcases Cub.mul_lt 10000 lx ly (unhide HX).1 (unhide HY).1 (i + 1) with h | h
            · refine Nat.lt_of_lt_of_le h (Nat.pow_le_pow_right (by decide) ?_)
              have := unhide HNY; omega
            · omega
          generalize hV1 : Cub.lval 10000 (lx.take (i + 1)) * Cub.lval 10000 ly = V1 at *
          have HV1 := hide hV1
          clear HA hV1
          go_wp2
          go_loopw [7, 9] (fun c t wq => ∃ (k p : Nat) (P : List Nat), c = .int .i64 (k : Int) ∧ t = .int .i64 (p : Int) ∧ p ≤ nx + j ∧ k < 10000 ∧ Hid (OutI w wq g (nx + j) P) ∧ Hid (Cub.Acc 10000 P k p V1)) (fun _ t _ => nx + j - (intOf t).toNat)
          case atStart => exact ⟨k, i + j, P, rfl, by go_num, by omega, hk, HP, HA1⟩
          case round =>
            clear HP HA1 hk
            obtain ⟨k, p, P, rfl, rfl, hp, hk, HP, HA⟩ := hrel
            by_cases hk0 : k = 0
            · subst hk0
              have HVn : Hid (Cub.limbs 10000 P ∧ Cub.lval 10000 P = Cub.lval 10000 (lx.take (i + 1)) * Cub.lval 10000 ly) := ⟨(unhide HA).lim, by rw [unhide HV1]; have := (unhide HA).val; simpa using this⟩
              go_wp2
              go_roundw
              case rel => exact ⟨i + 1, P, by go_num, by omega, HP, HVn⟩
              case measure => simp [intOf]; omega
            · have hpn : p < nx + j := by
                rcases Nat.lt_or_ge p (nx + j) with h | h
                · exact h
                · exfalso
                  have e : p = nx + j := by omega
                  have h2 := unhide HA
                  rw [e] at h2
                  exact hk0 (h2.none (unhide HVB))
              have hpl : p < P.length := by rw [(unhide HP).len]; omega
              obtain ⟨ov, hov⟩ : ∃ ov, ov = P[p] := ⟨_, rfl⟩
              have hoB : ov < 10000 := by rw [hov]; exact (unhide HA).lim _ (List.getElem_mem hpl)
              have hco := (unhide HP).cell p hpl
              rw [← hov] at hco
              have hfo := (unhide HP).frozen p
              have HA' : Hid (Cub.Acc 10000 (P.set p ((k + ov) % 10000)) ((k + ov) / 10000) (p + 1) V1) := by
                have h := (unhide HA).step (by decide) hpl 0
                rw [← hov, Nat.add_zero, Nat.mul_zero, Nat.add_zero] at h
                exact h
              have hk' : (k + ov) / 10000 < 10000 := Cub.carry_lt' 10000 k ov hk hoB (by decide)
              have HP' : Hid (OutI w (wr.setCell ⟨g, p, none⟩ (.int .i64 (((k : Int) + (ov : Int)) % 10000))) g (nx + j) (P.set p ((k + ov) % 10000))) := (unhide HP).set p ((k + ov) % 10000) _ (by omega)
              clear hov hpl
              go_wp2
              go_roundw
              case rel => exact ⟨(k + ov) / 10000, p + 1, P.set p ((k + ov) % 10000), by go_num, by go_num, by omega, hk', HP', HA'⟩
              case measure => simp [intOf]; omega
    · obtain ⟨t1, t2, t3⟩ := Cub.lval_trim 10000 _ O rfl
      have HF : Hid (Cub.normal 10000 (Cub.trimN O) ∧ Cub.lval 10000 (Cub.trimN O) = Cub.lval 10000 lx * Cub.lval 10000 ly ∧ (Cub.trimN O).length ≤ nx + ny) := by
        refine ⟨t2 (unhide HV).1, ?_, ?_⟩
        · rw [t1, (unhide HV).2, List.take_of_length_le (by have := unhide HNX; omega)]
        · obtain ⟨q, hq⟩ := t3
          have := congrArg List.length hq
          rw [List.length_append, (unhide HO).len] at this; omega
      have HOw : Hid (OwnI wr w.heap.size (.slice (some ⟨g, 0, none⟩) (nx + ny) (nx + ny)) O) := by
        have h := (unhide HO).own
        unfold OwnI Hid
        rw [(unhide HO).len]; exact h
      clear t1 t2 t3
      go_wp2_with (go_at_call 133; refine (refTrim_any _ _ O _ (unhide HOw)).mono ?_; rintro e w5 ⟨v5, rfl, ho5, rfl⟩)
      go_ret
      exact ⟨v5, _, rfl, ho5, (unhide HF).1, (unhide HF).2.1, (unhide HF).2.2, (unhide HO).below⟩
/-- A slice value holds a list of limbs, at whatever place of its block. -/
def RowI (w : World) (v : Value) (l : List Nat) : Prop :=
  ∃ a cap, v = .slice a l.length cap ∧ l.length ≤ cap ∧ cap ≤ 9223372036854775807 ∧ (l ≠ [] → ∃ b o, a = some ⟨b, o, none⟩ ∧ b < w.heap.size ∧ ∀ i (h : i < l.length), w.cell? ⟨b, o + i, none⟩ = some (.int .i64 (l[i] : Int)))
theorem RowI.later {w w' : World} {v : Value} {l : List Nat} (h : RowI w v l) (hb : Below w.heap.size w w') : RowI w' v l := by
  obtain ⟨a, cap, rfl, hc, hm, hr⟩ := h
  refine ⟨a, cap, rfl, hc, hm, fun hne => ?_⟩
  obtain ⟨b, o, rfl, hlt, hcell⟩ := hr hne
  have := hb.size
  exact ⟨b, o, rfl, by omega, fun i hi => (hb.cell (p := ⟨b, o + i, none⟩) hlt).trans (hcell i hi)⟩
theorem RowI.of_own {w : World} {base : Nat} {v : Value} {l : List Nat} (h : OwnI w base v l) : RowI w v l := by
  obtain ⟨a, cap, rfl, hc, hm, hcells⟩ := h.open
  refine ⟨a, cap, rfl, hc, hm, fun hne => ?_⟩
  have h0 : 0 < l.length := List.length_pos_iff.2 hne
  obtain ⟨b, rfl, hc0⟩ := hcells w (Below.refl _ _) 0 h0
  refine ⟨b, 0, rfl, World.block_lt_of_cell? _ _ hc0, fun i hi => ?_⟩
  obtain ⟨b', e, hc1⟩ := hcells w (Below.refl _ _) i hi
  simp only [Option.some.injEq, Addr.mk.injEq] at e
  obtain ⟨rfl, _⟩ := e
  rw [Nat.zero_add]; exact hc1
/-- From a place on. -/
theorem RowI.drop {w : World} {b n cap : Nat} {l : List Nat} (h : RowI w (.slice (some ⟨b, 0, none⟩) n cap) l) (up : Nat) (hu : up < n) : RowI w (.slice (some ⟨b, up, none⟩) (n - up) (cap - up)) (l.drop up) := by
  obtain ⟨a, cap', e, hc, hm, hr⟩ := h
  simp only [Value.slice.injEq] at e
  obtain ⟨rfl, rfl, rfl⟩ := e
  have hl : (l.drop up).length = l.length - up := List.length_drop ..
  refine ⟨_, _, by rw [hl], by rw [hl]; omega, by omega, fun _ => ?_⟩
  obtain ⟨b', o, e, hlt, hcell⟩ := hr (fun e => by rw [e] at hu; simp at hu)
  simp only [Option.some.injEq, Addr.mk.injEq] at e
  obtain ⟨rfl, rfl, _⟩ := e
  refine ⟨b, up, rfl, hlt, fun i hi => ?_⟩
  rw [List.getElem_drop]
  have := hcell (up + i) (by rw [hl] at hi; omega)
  rw [Nat.zero_add] at this
  exact this
theorem RowI.take {w : World} {a : Option Addr} {n cap : Nat} {l : List Nat} (h : RowI w (.slice a n cap) l) (k : Nat) (hk : k ≤ n) : RowI w (.slice a k cap) (l.take k) := by
  obtain ⟨a', cap', e, hc, hm, hr⟩ := h
  simp only [Value.slice.injEq] at e
  obtain ⟨rfl, rfl, rfl⟩ := e
  have hl : (l.take k).length = k := by rw [List.length_take]; omega
  refine ⟨a, cap, by rw [hl], by omega, hm, fun hne => ?_⟩
  obtain ⟨b, o, rfl, hlt, hcell⟩ := hr (fun e => hne (by rw [e]; simp))
  refine ⟨b, o, rfl, hlt, fun i hi => ?_⟩
  rw [List.getElem_take]
  exact hcell i (by omega)
theorem refTrimRow_any (v : Value) (l : List Nat) (w : World) (h : RowI w v l) :
    Calls Tryz.prog 133 #[v] w fun e w' => ∃ v', e = .returned v' ∧ RowI w v' (Cub.trimN l) ∧ w' = w := by
  have H := hide h
  obtain ⟨a, cap, rfl, hc, hm, hr⟩ := h
  have HR := hide hr
  clear hr
  obtain ⟨n, hn⟩ : ∃ n, n = l.length := ⟨_, rfl⟩
  rw [← hn] at H hc ⊢
  have HN := hide hn
  clear hn
  go_enter Tryz.func133, Tryz.ntmps133
  go_wp2
  go_loop [0] (fun t => ∃ k : Nat, k ≤ n ∧ t = .slice a k cap ∧ Hid (Cub.trimN (l.take k) = Cub.trimN l)) (fun t => lenOf t)
  case atStart => exact ⟨n, Nat.le_refl _, rfl, by rw [List.take_of_length_le (by have := unhide HN; omega)]; exact rfl⟩
  case round =>
    obtain ⟨k, hk, rfl, ht⟩ := hrel
    have HT := ht
    clear ht
    by_cases hk0 : k = 0
    · subst hk0
      have E : Hid (Cub.trimN l = l.take 0) := by rw [← unhide HT]; exact rfl
      go_wp2
      go_ret
      exact ⟨_, rfl, by rw [unhide E]; exact (unhide H).take 0 (Nat.zero_le _), rfl⟩
    · obtain ⟨j, rfl⟩ : ∃ j, k = j + 1 := ⟨k - 1, by omega⟩
      have hlt : j < l.length := by have := unhide HN; omega
      obtain ⟨b, o, rfl, _, hcell⟩ := unhide HR (fun e => by rw [e] at hlt; simp at hlt)
      have hx := hcell j hlt
      clear hcell
      by_cases hz : l[j] = 0
      · rw [hz] at hx
        have E : Hid (Cub.trimN (l.take j) = Cub.trimN l) := by
          rw [← unhide HT, List.take_succ_eq_append_getElem hlt, hz, Cub.trimN_snoc_zero]; exact rfl
        clear hz
        go_wp2
        go_round
        case rel => exact ⟨j, by omega, by first | rfl | go_num, E⟩
        case measure => simp [lenOf]
      · have E : Hid (Cub.trimN l = l.take (j + 1)) := by
          rw [← unhide HT, List.take_succ_eq_append_getElem hlt, Cub.trimN_snoc _ _ hz]; exact rfl
        have hz' : ((l[j] : Int) == 0) = false := by rw [beq_eq_false_iff_ne]; omega
        clear hz
        go_wp2
        go_ret
        exact ⟨_, rfl, by rw [unhide E]; exact (unhide H).take (j + 1) hk, rfl⟩
theorem refLess_any (vx vy : Value) (x y : List Nat) (w : World) (hx : RowI w vx x) (hy : RowI w vy y) (hnx : Cub.normal 10000 x) (hny : Cub.normal 10000 y) :
    Calls Tryz.prog 130 #[vx, vy] w fun e w' => e = .returned (.bool (decide (Cub.lval 10000 x < Cub.lval 10000 y))) ∧ Below w.heap.size w w' := by
  obtain ⟨ax, cx, rfl, hcx, hmx, hrx⟩ := hx
  obtain ⟨ay, cy, rfl, hcy, hmy, hry⟩ := hy
  by_cases hlen : x.length = y.length
  · have HRX := hide hrx
    have HRY := hide hry
    have HB : Hid (Cub.limbs 10000 x ∧ Cub.limbs 10000 y) := ⟨hnx.1, hny.1⟩
    have HL := hide hlen
    obtain ⟨n, hn⟩ : ∃ n, n = x.length := ⟨_, rfl⟩
    rw [← hlen] at hcy ⊢
    rw [← hn] at hcx hcy ⊢
    have HN := hide hn
    clear hrx hry hnx hny hlen hn
    go_enter Tryz.func130, Tryz.ntmps130
    go_wp2
    go_loopw [5] (fun t wr => ∃ k : Nat, k ≤ n ∧ t = .int .i64 ((k : Int) - 1) ∧ Hid (x.drop k = y.drop k) ∧ Hid (Below w.heap.size w wr)) (fun t _ => (intOf t + 1).toNat)
    case atStart => exact ⟨n, Nat.le_refl _, rfl, by rw [List.drop_of_length_le (by have := unhide HN; omega), List.drop_of_length_le (by have := unhide HN; have := unhide HL; omega)]; exact rfl, Below.refl _ _⟩
    case round =>
      obtain ⟨k, hk, rfl, HD, HW⟩ := hrel
      by_cases h0 : k = 0
      · subst h0
        have HV : Hid (decide (Cub.lval 10000 x < Cub.lval 10000 y) = false) := by
          have := unhide HD
          rw [List.drop_zero, List.drop_zero] at this
          show _ = _
          rw [this]; simp
        go_wp2
        go_ret
        exact ⟨by rw [unhide HV]; rfl, unhide HW⟩
      · obtain ⟨j, rfl⟩ : ∃ j, k = j + 1 := ⟨k - 1, by omega⟩
        have hjx : j < x.length := by have := unhide HN; omega
        have hjy : j < y.length := by have := unhide HL; omega
        obtain ⟨bx, ox, rfl, hbx, hcellx⟩ := unhide HRX (fun e => by rw [e] at hjx; simp at hjx)
        obtain ⟨by', oy, rfl, hby, hcelly⟩ := unhide HRY (fun e => by rw [e] at hjy; simp at hjy)
        obtain ⟨xv, hxv⟩ : ∃ xv, xv = x[j] := ⟨_, rfl⟩
        obtain ⟨yv, hyv⟩ : ∃ yv, yv = y[j] := ⟨_, rfl⟩
        have c1 : wr.cell? ⟨bx, ox + j, none⟩ = some (.int .i64 (xv : Int)) := by rw [(unhide HW).cell (p := ⟨bx, ox + j, none⟩) hbx, hcellx j hjx, hxv]
        have c2 : wr.cell? ⟨by', oy + j, none⟩ = some (.int .i64 (yv : Int)) := by rw [(unhide HW).cell (p := ⟨by', oy + j, none⟩) hby, hcelly j hjy, hyv]
        have hjn : (j : Int) < (n : Int) := by omega
        have HLT : Hid (xv < yv → Cub.lval 10000 x < Cub.lval 10000 y) := fun h => Cub.less_at (unhide HB).1 hjx hjy (unhide HD) (by rw [← hxv, ← hyv]; exact h)
        have HGT : Hid (yv < xv → Cub.lval 10000 y < Cub.lval 10000 x) := fun h => Cub.less_at (unhide HB).2 hjy hjx (unhide HD).symm (by rw [← hxv, ← hyv]; exact h)
        have HEQ : Hid (xv = yv → x.drop j = y.drop j) := fun h => Cub.drop_same hjx hjy (unhide HD) (by rw [← hxv, ← hyv]; exact h)
        have ej : ((j + 1 : Nat) : Int) - 1 = (j : Int) := by omega
        rw [ej]
        clear hcellx hcelly hxv hyv hjx hjy HD ej h0
        by_cases he : xv = yv
        · have HE' := hide (unhide HEQ he)
          subst he
          have e : ((xv : Int) != (xv : Int)) = false := by simp
          clear HLT HGT HEQ
          go_upto_region 6 with fail
          go_quiet (fail)
          go_wp2_with fail
          go_roundw
          case rel => exact ⟨j, by omega, by go_num, HE', below_drewN (unhide HW) _⟩
          case measure => simp [intOf]
        · have e : ((xv : Int) != (yv : Int)) = true := by rw [bne_iff_ne]; omega
          have HV : Hid (decide (Cub.lval 10000 x < Cub.lval 10000 y) = decide (xv < yv)) := by
            show _ = _
            rcases Nat.lt_or_ge xv yv with h | h
            · rw [decide_eq_true (unhide HLT h), decide_eq_true (by omega)]
            · have := unhide HGT (by omega)
              rw [decide_eq_false (by omega), decide_eq_false (by omega)]
          clear HLT HGT HEQ he
          go_upto_region 6 with fail
          go_quiet (fail)
          go_upto_region 7 with fail
          go_quiet (fail)
          go_wp2_with fail
          go_ret
          exact ⟨by rw [unhide HV]; rfl, below_drewN (below_drewN (unhide HW) _) _⟩
  · have HV : Hid (decide (Cub.lval 10000 x < Cub.lval 10000 y) = decide (x.length < y.length)) := by
      show _ = _
      rcases Nat.lt_or_ge x.length y.length with h | h
      · rw [decide_eq_true (Cub.less_len (by decide) hnx.1 hny h), decide_eq_true (by omega)]
      · have := Cub.less_len (by decide) hny.1 hnx (by omega : y.length < x.length)
        rw [decide_eq_false (by omega), decide_eq_false (by omega)]
    have e : ((x.length : Int) != (y.length : Int)) = true := by rw [bne_iff_ne]; omega
    rw [unhide HV]
    clear hlen HV hrx hry hnx hny
    generalize x.length = nx at *
    generalize y.length = ny at *
    go_enter Tryz.func130, Tryz.ntmps130
    go_wp2
    go_ret
    exact ⟨rfl, Below.refl _ _⟩
end Go.Proofs.YtijifpbpjinmhaaGreatDoor
namespace Cub
/-- The search: low goes, high + 1 does not (or is too great). -/
structure FitInv (X V low high : Nat) : Prop where
  le : low ≤ high
  top : high ≤ 9999
  lo : V * low ≤ X
  hi : high < 9999 → X < V * (high + 1)
theorem FitInv.start (X V : Nat) : FitInv X V 0 9999 := ⟨by omega, by omega, by simp, fun h => by omega⟩
theorem FitInv.down {X V low high q : Nat} (h : FitInv X V low high) (h1 : low < q) (h2 : q ≤ high) (hlt : X < V * q) : FitInv X V low (q - 1) :=
  ⟨by omega, by have := h.top; omega, h.lo, fun _ => by rw [show q - 1 + 1 = q by omega]; exact hlt⟩
theorem FitInv.up {X V low high q : Nat} (h : FitInv X V low high) (h2 : q ≤ high) (hge : ¬ X < V * q) : FitInv X V q high :=
  ⟨h2, h.top, by omega, h.hi⟩
theorem FitInv.done {X V q : Nat} (h : FitInv X V q q) (h9 : X / V ≤ 9999) (hV : 0 < V) : q = X / V := by
  have h1 : q ≤ X / V := (Nat.le_div_iff_mul_le hV).2 (by rw [Nat.mul_comm]; exact h.lo)
  rcases Nat.lt_or_ge q 9999 with hq | hq
  · have h2 := h.hi hq
    have h3 : X / V < q + 1 := (Nat.div_lt_iff_lt_mul hV).2 (by rw [Nat.mul_comm]; exact h2)
    omega
  · omega
end Cub
namespace Go.Proofs.YtijifpbpjinmhaaGreatDoor
open Go.RowKit
theorem OwnI.one (w : World) (q : Nat) : OwnI (w.alloc (.cells #[.int .i64 (q : Int)] 3)) w.heap.size (.slice (some ⟨w.heap.size, 0, none⟩) 1 1) [q] := by
  refine ⟨rfl, Or.inr ⟨w.heap.size, 1, #[.int .i64 (q : Int)], rfl, Nat.le_refl _, heap_alloc_new w _, Nat.le_refl _, by unfold maxLen; omega, rfl, rfl⟩⟩
theorem refFits_any (vx vy : Value) (bx by' : Nat) (X Y : List Nat) (up Q : Nat) (w : World) (hx : OwnI w bx vx X) (hy : OwnI w by' vy Y) (hlx : Cub.limbs 10000 X) (hny : Cub.normal 10000 Y) (hl : X.length ≤ 1000000) (hly : Y.length ≤ 100000) (hup : up < X.length)
    (h9 : Cub.lval 10000 (X.drop up) / Cub.lval 10000 Y ≤ 9999) (hV : 0 < Cub.lval 10000 Y) (hQ : Q = Cub.lval 10000 (X.drop up) / Cub.lval 10000 Y) :
    Calls Tryz.prog 131 #[vx, vy, .int .i64 (up : Int)] w fun e w' => e = .returned (.int .i64 (Q : Int)) ∧ Below w.heap.size w w' := by
  obtain ⟨ax, cx, rfl, hcx, hmx, hcells⟩ := hx.open
  obtain ⟨gx, rfl, hc0⟩ := hcells w (Below.refl _ _) 0 (by omega)
  clear hcells hc0
  have HR : Hid (RowI w (.slice (some ⟨gx, up, none⟩) (X.length - up) (cx - up)) (X.drop up)) := (RowI.of_own hx).drop up hup
  obtain ⟨t1, t2, _⟩ := Cub.lval_trim 10000 _ (X.drop up) rfl
  have HT : Hid (Cub.normal 10000 (Cub.trimN (X.drop up)) ∧ Cub.lval 10000 (Cub.trimN (X.drop up)) = Cub.lval 10000 (X.drop up)) := ⟨t2 (Cub.limbs_drop4 hlx up), t1⟩
  have HY := hide hy
  have HF : Hid (∀ q, Cub.FitInv (Cub.lval 10000 (X.drop up)) (Cub.lval 10000 Y) q q → q = Q) := fun q h => by rw [hQ]; exact h.done h9 hV
  have H81 : Hid (∀ (q : Nat) (W : World), q < 10000 → OwnI W by' vy Y → Calls Tryz.prog 118 #[vy, .slice (some ⟨W.heap.size, 0, none⟩) 1 1] (W.alloc (.cells #[.int .i64 (q : Int)] 3)) fun e w' => ∃ v l, e = .returned v ∧ RowI w' v l ∧ Cub.normal 10000 l ∧ Cub.lval 10000 l = Cub.lval 10000 Y * q ∧ Below W.heap.size W w') := fun q W hq hW => by
    refine (refTimes_any vy _ by' W.heap.size Y [q] _ (hW.later ((Below.refl _ _).alloc (Nat.le_refl _) _)) (OwnI.one W q) hny.1 (fun z hz => by rw [List.mem_singleton] at hz; omega) (by omega) (by simp)).mono ?_
    rintro e w' ⟨v, l, he, ho, hn, hv, _, hb⟩
    exact ⟨v, l, he, RowI.of_own ho, hn, by rw [hv]; simp [Cub.lval], ((Below.refl _ _).alloc (Nat.le_refl _) _).trans (hb.mono (by simp))⟩
  generalize Cub.lval 10000 (X.drop up) = XU at *
  generalize Cub.lval 10000 Y = V at *
  generalize X.length = n at *
  clear hx hy hlx hny hly h9 hV hQ t1 t2
  go_enter Tryz.func131, Tryz.ntmps131
  go_wp2
  go_loopw [7, 8] (fun a b wr => ∃ low high : Nat, a = .int .i64 (low : Int) ∧ b = .int .i64 (high : Int) ∧ low ≤ high ∧ high ≤ 9999 ∧ Hid (Cub.FitInv XU V low high) ∧ Hid (Below w.heap.size w wr)) (fun a b _ => (intOf b - intOf a).toNat)
  case atStart => exact ⟨0, 9999, rfl, rfl, by omega, by omega, Cub.FitInv.start XU V, Below.refl _ _⟩
  case round =>
    obtain ⟨low, high, rfl, rfl, hle, htop, HI, HW⟩ := hrel
    by_cases hlt : low < high
    · obtain ⟨q, hq⟩ : ∃ q, q = (low + high + 1) / 2 := ⟨_, rfl⟩
      have hq' : ((low : Int) + (high : Int) + 1) / 2 = (q : Int) := by omega
      have hq1 : low < q := by omega
      have hq2 : q ≤ high := by omega
      have HWW := hide ((unhide HY).later (unhide HW))
      have H81q := hide (unhide H81 q wr (by omega) (unhide HWW))
      clear hq
      by_cases hc : XU < V * q
      all_goals go_wp2_with (first
        | (go_at_call 118; go_must (refine (unhide H81q).mono ?_; rintro e w2 ⟨vp, lp, rfl, hrp, hnp, hvp, hb2⟩; have HP := hide (And.intro hrp (And.intro hnp hvp)); have HW2 := hide ((unhide HW).trans (hb2.mono (unhide HW).size)); clear hrp hnp hvp hb2))
        | (go_at_call 133; go_must (refine (refTrimRow_any _ (X.drop up) w2 ((unhide HR).later (unhide HW2))).mono ?_; rintro e w3 ⟨vt, rfl, hrt, hw3⟩; rw [hw3]; clear hw3; have H85 := hide (refLess_any vt vp (Cub.trimN (X.drop up)) lp w2 hrt (unhide HP).1 (unhide HT).1 (unhide HP).2.1); rw [(unhide HT).2, (unhide HP).2.2] at H85; clear hrt))
        | (go_at_call 130; go_must (refine (unhide H85).mono ?_; rintro e w4 ⟨rfl, hb4⟩; have HW4 := hide ((unhide HW2).trans (hb4.mono (unhide HW2).size)); clear hb4)))
      · go_roundw
        case rel => exact ⟨low, q - 1, rfl, by go_num, by omega, by omega, (unhide HI).down hq1 hq2 hc, HW4⟩
        case measure => simp [intOf]; omega
      · go_roundw
        case rel => exact ⟨q, high, rfl, rfl, by omega, by omega, (unhide HI).up hq2 hc, HW4⟩
        case measure => simp [intOf]; omega
    · have hie : low = high := by omega
      subst hie
      have HV := hide (unhide HF low (unhide HI))
      clear HF
      go_wp2
      go_ret
      exact ⟨by rw [← unhide HV]; rfl, unhide HW⟩
end Go.Proofs.YtijifpbpjinmhaaGreatDoor
