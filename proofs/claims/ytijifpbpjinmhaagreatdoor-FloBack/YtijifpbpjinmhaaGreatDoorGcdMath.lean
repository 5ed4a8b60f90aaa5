/- The greatest common divisor by Lehmer's steps: plain facts. No program is named here. -/
import Derived.Test.YtijifpbpjinmhaaGreatDoorBigOf
import Derived.Deep.RegionHeld3
import Derived.Test.YtijifpbpjinmhaaGreatDoorAdd
import Derived.Deep.QuietTactic
import Derived.BigQuiet
import Derived.Test.YtijifpbpjinmhaaGreatDoorLimb2
import Derived.Test.YtijifpbpjinmhaaGreatDoorText
set_option maxHeartbeats 2000000
set_option maxRecDepth 100000
namespace Go.Proofs.YtijifpbpjinmhaaGreatDoor
open Go.RowKit
/-- A Frac's box: three cells. -/
structure FBox (W : World) (g : Nat) (x y z : Value) : Prop where
  c0 : W.cell? ⟨g, 0, none⟩ = some x
  c1 : W.cell? ⟨g, 1, none⟩ = some y
  c2 : W.cell? ⟨g, 2, none⟩ = some z
  f0 : W.frozen? ⟨g, 0, none⟩ = false
  f1 : W.frozen? ⟨g, 1, none⟩ = false
  f2 : W.frozen? ⟨g, 2, none⟩ = false
theorem FBox.lt {W : World} {g : Nat} {x y z : Value} (h : FBox W g x y z) : g < W.heap.size := World.block_lt_of_cell? _ _ h.c0
theorem FBox.later {W V : World} {g : Nat} {x y z : Value} (h : FBox W g x y z) (hb : Below W.heap.size W V) : FBox V g x y z :=
  ⟨(hb.cell (p := ⟨g, 0, none⟩) h.lt).trans h.c0, (hb.cell (p := ⟨g, 1, none⟩) h.lt).trans h.c1, (hb.cell (p := ⟨g, 2, none⟩) h.lt).trans h.c2,
    (hb.frozen (p := ⟨g, 0, none⟩) h.lt).trans h.f0, (hb.frozen (p := ⟨g, 1, none⟩) h.lt).trans h.f1, (hb.frozen (p := ⟨g, 2, none⟩) h.lt).trans h.f2⟩
/-- A whole Frac stored into its box. -/
def store3 (W : World) (g : Nat) (x y z : Value) : World := ((W.setCell ⟨g, 0, none⟩ x).setCell ⟨g, 1, none⟩ y).setCell ⟨g, 2, none⟩ z
theorem FBox.store {W : World} {g : Nat} {x y z : Value} (h : FBox W g x y z) (x' y' z' : Value) : FBox (store3 W g x' y' z') g x' y' z' := by
  have a1 : (W.setCell ⟨g, 0, none⟩ x').cell? ⟨g, 1, none⟩ = some y := by rw [World.cell?_setCell_other _ _ _ _ (by simp)]; exact h.c1
  have a2 : ((W.setCell ⟨g, 0, none⟩ x').setCell ⟨g, 1, none⟩ y').cell? ⟨g, 2, none⟩ = some z := by rw [World.cell?_setCell_other _ _ _ _ (by simp), World.cell?_setCell_other _ _ _ _ (by simp)]; exact h.c2
  unfold store3
  refine ⟨?_, ?_, World.cell?_setCell_same _ _ _ a2, ?_, ?_, ?_⟩
  · rw [World.cell?_setCell_other _ _ _ _ (by simp), World.cell?_setCell_other _ _ _ _ (by simp)]; exact World.cell?_setCell_same _ _ _ h.c0
  · rw [World.cell?_setCell_other _ _ _ _ (by simp)]; exact World.cell?_setCell_same _ _ _ a1
  · rw [World.frozen?_setCell, World.frozen?_setCell, World.frozen?_setCell]; exact h.f0
  · rw [World.frozen?_setCell, World.frozen?_setCell, World.frozen?_setCell]; exact h.f1
  · rw [World.frozen?_setCell, World.frozen?_setCell, World.frozen?_setCell]; exact h.f2
theorem FBox.big {W : World} {g : Nat} {b : Bool} {a1 a2 : Option Addr} {l1 c1 l2 c2 : Nat} (h : FBox W g (.bool b) (.slice a1 l1 c1) (.slice a2 l2 c2)) (x' y' z' : Value) {v : Value} {n : Nat} (hv : IsBig W v n) : IsBig (store3 W g x' y' z') v n := by
  have e1 : (W.setCell ⟨g, 0, none⟩ x').cell? ⟨g, 1, none⟩ = some (.slice a1 l1 c1) := by rw [World.cell?_setCell_other _ _ _ _ (by simp)]; exact h.c1
  have e2 : ((W.setCell ⟨g, 0, none⟩ x').setCell ⟨g, 1, none⟩ y').cell? ⟨g, 2, none⟩ = some (.slice a2 l2 c2) := by rw [World.cell?_setCell_other _ _ _ _ (by simp), World.cell?_setCell_other _ _ _ _ (by simp)]; exact h.c2
  exact ((hv.box _ h.c0 (fun _ _ e => by cases e)).box _ e1 (not_int _ _ _)).box _ e2 (not_int _ _ _)
theorem below_store3 {B g : Nat} {w W : World} (h : Below B w W) (hg : B ≤ g) (x y z : Value) : Below B w (store3 W g x y z) :=
  ((h.setCell (p := ⟨g, 0, none⟩) hg x).setCell (p := ⟨g, 1, none⟩) hg y).setCell (p := ⟨g, 2, none⟩) hg z
theorem FBox.other {W : World} {g k : Nat} {x y z : Value} (h : FBox W g x y z) (hk : g ≠ k) (u : Value) : FBox (W.setCell ⟨k, 0, none⟩ u) g x y z :=
  ⟨by rw [World.cell?_setCell_other _ _ _ _ (by intro e; cases e; exact hk rfl)]; exact h.c0, by rw [World.cell?_setCell_other _ _ _ _ (by intro e; cases e)]; exact h.c1, by rw [World.cell?_setCell_other _ _ _ _ (by intro e; cases e)]; exact h.c2,
    by rw [World.frozen?_setCell]; exact h.f0, by rw [World.frozen?_setCell]; exact h.f1, by rw [World.frozen?_setCell]; exact h.f2⟩
/-- Two numbers in their boxes, and a Frac's box. -/
structure RSt (w W : World) (u v : Value) : Prop where
  b1 : Box W w.heap.size u
  b2 : Box W (w.heap.size + 1) v
  b3 : FBox W (w.heap.size + 1 + 1) (.bool false) (.slice none 0 0) (.slice none 0 0)
  below : Below w.heap.size w W
theorem RSt.later {w W V : World} {u v : Value} (s : RSt w W u v) (hb : Below W.heap.size W V) : RSt w V u v :=
  ⟨s.b1.later hb, s.b2.later hb, s.b3.later hb, s.below.trans (hb.mono s.below.size)⟩
theorem RSt.first (w : World) (u v : Value) : RSt w (((w.alloc (.cells #[u] 51)).alloc (.cells #[v] 51)).alloc (.cells #[.bool false, .slice none 0 0, .slice none 0 0] 98)) u v :=
  ⟨⟨by simp [go_sem], by simp [go_sem]⟩, ⟨by simp [go_sem], by simp [go_sem]⟩, ⟨by simp [go_sem], by simp [go_sem], by simp [go_sem], by simp [go_sem], by simp [go_sem], by simp [go_sem]⟩,
    (((Below.refl _ _).alloc (Nat.le_refl _) _).alloc (by simp) _).alloc (by simp; omega) _⟩
theorem RSt.both {w W : World} {u v : Value} (s : RSt w W u v) (x y : Value) : RSt w ((W.setCell ⟨w.heap.size, 0, none⟩ x).setCell ⟨w.heap.size + 1, 0, none⟩ y) x y :=
  ⟨(s.b1.set x).other (by omega) y, (s.b2.other (by omega) x).set y, (s.b3.other (by omega) x).other (by omega) y, (s.below.setCell (by simp) _).setCell (by simp) _⟩
end Go.Proofs.YtijifpbpjinmhaaGreatDoor
namespace Cub
theorem takeB (B : Nat) (l : List Nat) (i : Nat) : lval B (l.take (i + 1)) = lval B (l.take i) + B ^ i * l.getD i 0 := by
  by_cases h : i < l.length
  · rw [List.take_succ_eq_append_getElem h, lval_snoc, List.length_take, Nat.min_eq_left (by omega)]
    simp [List.getD, h]
  · rw [List.take_of_length_le (by omega), List.take_of_length_le (by omega)]
    simp [List.getD, Nat.le_of_not_lt h]
/-- A list in the making, with what is carried to place p: together they are V. -/
structure Acc (B : Nat) (O : List Nat) (c p V : Nat) : Prop where
  lim : limbs B O
  val : lval B O + B ^ p * c = V
theorem Acc.step {B : Nat} {O : List Nat} {c p V : Nat} (h : Acc B O c p V) (hB : 0 < B) (hp : p < O.length) (t : Nat) :
    Acc B (O.set p ((c + O[p] + t) % B)) ((c + O[p] + t) / B) (p + 1) (V + B ^ p * t) := by
  refine ⟨limbs_set h.lim p _ (Nat.mod_lt _ hB), ?_⟩
  have e1 := lval_set B O p ((c + O[p] + t) % B) hp
  have e2 := h.val
  have e3 : c + O[p] + t = B * ((c + O[p] + t) / B) + (c + O[p] + t) % B := (Nat.div_add_mod _ _).symm
  generalize (c + O[p] + t) / B = q at *
  generalize (c + O[p] + t) % B = r at *
  have e4 := congrArg (B ^ p * ·) e3
  simp only [Nat.mul_add] at e4
  rw [Nat.pow_succ]
  have m1 : B ^ p * B * q = B ^ p * (B * q) := Nat.mul_assoc _ _ _
  omega
theorem carry_lt (B c o x y : Nat) (hc : c < B) (ho : o < B) (hx : x < B) (hy : y < B) : (c + o + x * y) / B < B := by
  apply Nat.div_lt_of_lt_mul
  obtain ⟨b, rfl⟩ : ∃ b, B = b + 1 := ⟨B - 1, by omega⟩
  have h1 : x * y ≤ b * b := Nat.mul_le_mul (by omega) (by omega)
  have h2 : (b + 1) * (b + 1) = b * b + b + b + 1 := by rw [Nat.add_mul, Nat.mul_add]; omega
  omega
theorem get_zero {B : Nat} {O : List Nat} {p : Nat} (h : lval B O < B ^ p) (hp : p < O.length) : O[p] = 0 := by
  rcases Nat.eq_zero_or_pos O[p] with h0 | h0
  · exact h0
  · have e := lval_set B O p 0 hp
    have : B ^ p * 1 ≤ B ^ p * O[p] := Nat.mul_le_mul_left _ h0
    omega
theorem mul_lt (B : Nat) (x y : List Nat) (hx : limbs B x) (hy : limbs B y) (i : Nat) : lval B (x.take i) * lval B y < B ^ (i + y.length) ∨ B = 0 := by
  rcases Nat.eq_zero_or_pos B with h0 | h0
  · exact Or.inr h0
  · left
    have h1 := lval_lt (B := B) (l := x.take i) (fun z hz => hx z (List.mem_of_mem_take hz))
    have h2 := lval_lt hy
    have h3 : B ^ (x.take i).length ≤ B ^ i := Nat.pow_le_pow_right h0 (List.length_take_le _ _)
    rw [Nat.pow_add]
    exact Nat.mul_lt_mul'' (by omega) h2
theorem lval_zeros (B n : Nat) : lval B (List.replicate n 0) = 0 := by
  induction n with
  | zero => rfl
  | succ n ih => simp [List.replicate_succ, lval, ih]
theorem limbs_zeros (B n : Nat) (hB : 0 < B) : limbs B (List.replicate n 0) := fun x hx => by
  rw [List.mem_replicate] at hx; omega
/-- One more limb of y. -/
theorem val_inner (B a i k : Nat) (y : List Nat) (V : Nat) : V + B ^ i * (a * lval B (y.take k)) + B ^ (i + k) * (a * y.getD k 0) = V + B ^ i * (a * lval B (y.take (k + 1))) := by
  rw [takeB, Nat.mul_add, Nat.mul_add, Nat.pow_add]
  have : B ^ i * (a * (B ^ k * y.getD k 0)) = B ^ i * B ^ k * (a * y.getD k 0) := by
    rw [Nat.mul_left_comm a, ← Nat.mul_assoc]
  omega
theorem val_outer (B i : Nat) (x y : List Nat) : lval B (x.take i) * lval B y + B ^ i * (x.getD i 0 * lval B y) = lval B (x.take (i + 1)) * lval B y := by
  rw [takeB, Nat.add_mul, Nat.mul_assoc]
end Cub
namespace Go.Proofs.YtijifpbpjinmhaaGreatDoor
open Go.RowKit
/-- What stands of the product that is filled, and of the three boxes. -/
structure OutU (w wr : World) (a b : Value) (N : Nat) (O : List Nat) : Prop where
  own : Own wr (w.heap.size + 1 + 1 + 1) O
  len : O.length = N
  box : Boxes3 w wr a b (.slice none 0 0)
theorem OutU.set {w wr : World} {a b : Value} {N : Nat} {O : List Nat} (h : OutU w wr a b N O) (p x : Nat) (z : Int) (hz : z = (x : Int)) : OutU w (wr.setCell ⟨w.heap.size + 1 + 1 + 1, p, none⟩ (.int .u64 z)) a b N (O.set p x) := by
  subst hz
  exact ⟨h.own.set p x, by rw [List.length_set]; exact h.len, h.box.on ((Below.refl (w.heap.size + 3) wr).setCell (p := ⟨w.heap.size + 1 + 1 + 1, p, none⟩) (show w.heap.size + 3 ≤ w.heap.size + 1 + 1 + 1 by omega) _)⟩
theorem mul_any (x y : Value) (m n k : Nat) (w : World) (hx : IsBig w x m) (hy : IsBig w y n) (hk : k ≤ 1000000) (hm : m < 1000000000 ^ k) (hn : n < 1000000000 ^ k) :
    Calls Tryz.prog 99 #[x, y] w fun e w' => ∃ v, e = .returned v ∧ IsBig w' v (m * n) ∧ Below w.heap.size w w' := by
  obtain ⟨ap, lp, cp, rfl, hlp, hrp, hnp, rfl⟩ := hx.form
  obtain ⟨aq, lq, cq, rfl, hlq, hrq, hnq, rfl⟩ := hy.form
  have h1 := Cub.len_le hnp hm
  have h2 := Cub.len_le hnq hn
  have HP : Hid (Cub.limbs 1000000000 lp ∧ Cells w ap lp) := ⟨hnp.1, hrp.cells.2.2.2⟩
  have HQ : Hid (Cub.limbs 1000000000 lq ∧ Cells w aq lq) := ⟨hnq.1, hrq.cells.2.2.2⟩
  obtain ⟨np, hnp'⟩ : ∃ np, np = lp.length := ⟨_, rfl⟩
  obtain ⟨nq, hnq'⟩ : ∃ nq, nq = lq.length := ⟨_, rfl⟩
  rw [← hnp'] at h1 ⊢
  rw [← hnq'] at h2 ⊢
  have HNP := hide hnp'
  have HNQ := hide hnq'
  clear hx hy hm hn hlp hlq hrp hrq hnp hnq hnp' hnq'
  obtain ⟨i0, hi, hz0, hz1, hz2⟩ := info_parts Tryz.info41
  go_enter Tryz.func99, Tryz.ntmps99
  go_wp2_with (first
    | (at_make; go_must (refine wpList_make_full _ rfl _ _ 49 rfl (w.heap.size + 3) 41 i0 (.int .u64 0) 1 Tryz.underlying49 hi hz0 hz1 .i64 .i64 _ _ (np + nq) rfl rfl (by omega) (by omega) (by rw [hz2]; omega) (by unfold maxLen; omega) (by simp) ?_; intro w4 hown4 hgrow4; rw [u64s_made] at hown4; have hO4 : Own w4 (w.heap.size + 1 + 1 + 1) (List.replicate (np + nq) 0) := (by have := Own.of_row hown4; simpa using this); have hB4 := boxes3 ((Below.refl (w.heap.size + 3) _).grown hgrow4 (by simp) (fun k hk => by cases hk)); have bp4 := hB4.c1; have HO4 : Hid (OutU w w4 (.slice ap np cp) (.slice aq nq cq) (np + nq) (List.replicate (np + nq) 0)) := ⟨hO4, List.length_replicate .., hB4⟩; clear hown4 hgrow4 hO4 hB4)))
  go_loopw [22] (fun t wr => ∃ (i : Nat) (O : List Nat), t = .int .i64 (i : Int) ∧ i ≤ np ∧ Hid (OutU w wr (.slice ap np cp) (.slice aq nq cq) (np + nq) O) ∧ Hid (Cub.limbs 1000000000 O ∧ Cub.lval 1000000000 O = Cub.lval 1000000000 (lp.take i) * Cub.lval 1000000000 lq)) (fun t _ => np - (intOf t).toNat)
  case atStart => exact ⟨0, _, rfl, by omega, HO4, ⟨Cub.limbs_zeros _ _ (by decide), by rw [Cub.lval_zeros]; simp [Cub.lval]⟩⟩
  case round =>
    obtain ⟨i, O, rfl, hi', HO, HV⟩ := hrel
    clear bp4
    have bq := (unhide HO).box.c2
    by_cases hin : i < np
    · have hil : i < lp.length := by have := unhide HNP; omega
      obtain ⟨xv, hxv⟩ : ∃ xv, xv = lp[i] := ⟨_, rfl⟩
      have hxB : xv < 1000000000 := by rw [hxv]; exact (unhide HP).1 _ (List.getElem_mem hil)
      have HXV : Hid (lp.getD i 0 = xv) := by rw [hxv, List.getD_eq_getElem?_getD, List.getElem?_eq_getElem hil]; exact rfl
      obtain ⟨b1, o1, rfl, hcx⟩ := (unhide HP).2 wr (unhide HO).box.below i hil
      rw [← hxv] at hcx
      clear hxv
      by_cases hx0 : xv = 0
      · subst hx0
        have HVn : Hid (Cub.limbs 1000000000 O ∧ Cub.lval 1000000000 O = Cub.lval 1000000000 (lp.take (i + 1)) * Cub.lval 1000000000 lq) := by
          refine ⟨(unhide HV).1, ?_⟩
          rw [← Cub.val_outer, unhide HXV, (unhide HV).2]; simp
        go_wp2
        go_roundw
        case rel => exact ⟨i + 1, O, by go_num, by omega, HO, HVn⟩
        case measure => simp [intOf]; omega
      · have hxz : ((xv : Int) == 0) = false := by rw [beq_eq_false_iff_ne]; omega
        have HA0 : Hid (Cub.Acc 1000000000 O 0 (i + 0) (Cub.lval 1000000000 (lp.take i) * Cub.lval 1000000000 lq + 1000000000 ^ i * (xv * Cub.lval 1000000000 (lq.take 0)))) := by
          refine ⟨(unhide HV).1, ?_⟩
          rw [(unhide HV).2]; simp [Cub.lval]
        have HZ0 : Hid (∀ p (hp : p < O.length), i + nq ≤ p → O[p] = 0) := fun p hp hip => by
          apply Cub.get_zero (B := 1000000000) (p := p) _ hp
          rw [(unhide HV).2]
          rcases Cub.mul_lt 1000000000 lp lq (unhide HP).1 (unhide HQ).1 i with h | h
          · refine Nat.lt_of_lt_of_le h (Nat.pow_le_pow_right (by decide) ?_)
            have := unhide HNQ; omega
          · omega
        generalize hV0 : Cub.lval 1000000000 (lp.take i) * Cub.lval 1000000000 lq = V0 at *
        have HV0 := hide hV0
        clear hV0 hx0
        go_wp2
        go_loopw [8, 32] (fun c t wq => ∃ (k j : Nat) (P : List Nat), c = .int .u64 (k : Int) ∧ t = .int .i64 (j : Int) ∧ j ≤ nq ∧ k < 1000000000 ∧ Hid (OutU w wq (.slice (some ⟨b1, o1, none⟩) np cp) (.slice aq nq cq) (np + nq) P) ∧ Hid (∀ p (hp : p < P.length), i + nq ≤ p → P[p] = 0) ∧ Hid (Cub.Acc 1000000000 P k (i + j) (V0 + 1000000000 ^ i * (xv * Cub.lval 1000000000 (lq.take j))))) (fun _ t _ => nq - (intOf t).toNat)
        case atStart => exact ⟨0, 0, O, rfl, rfl, by omega, by omega, HO, HZ0, HA0⟩
        case round =>
          clear bq hcx
          obtain ⟨k, j, P, rfl, rfl, hj, hk, HP', HZ, HA⟩ := hrel
          have bq := (unhide HP').box.c2
          by_cases hjn : j < nq
          · have hpl : i + j < P.length := by rw [(unhide HP').len]; omega
            have hjl : j < lq.length := by have := unhide HNQ; omega
            obtain ⟨ov, hov⟩ : ∃ ov, ov = P[i + j] := ⟨_, rfl⟩
            have hoB : ov < 1000000000 := by rw [hov]; exact (unhide HA).lim _ (List.getElem_mem hpl)
            have hco := (unhide HP').own.cell (i + j) hpl
            rw [← hov] at hco
            have hfo := (unhide HP').own.frozen (i + j)
            obtain ⟨yv, hyv⟩ : ∃ yv, yv = lq[j] := ⟨_, rfl⟩
            have hyB : yv < 1000000000 := by rw [hyv]; exact (unhide HQ).1 _ (List.getElem_mem hjl)
            obtain ⟨b2, o2, rfl, hcy⟩ := (unhide HQ).2 wr (unhide HP').box.below j hjl
            rw [← hyv] at hcy
            have HYV : Hid (lq.getD j 0 = yv) := by rw [hyv, List.getD_eq_getElem?_getD, List.getElem?_eq_getElem hjl]; exact rfl
            obtain ⟨m, hm⟩ : ∃ m, m = xv * yv := ⟨_, rfl⟩
            have hmB : m ≤ 999999998000000001 := by rw [hm]; exact Nat.mul_le_mul (show xv ≤ 999999999 by omega) (show yv ≤ 999999999 by omega)
            have hmul : (xv : Int) * (yv : Int) = (m : Int) := by rw [hm]; simp
            have HA' : Hid (Cub.Acc 1000000000 (P.set (i + j) ((k + ov + m) % 1000000000)) ((k + ov + m) / 1000000000) (i + (j + 1)) (V0 + 1000000000 ^ i * (xv * Cub.lval 1000000000 (lq.take (j + 1))))) := by
              have h := (unhide HA).step (by decide) hpl (xv * lq.getD j 0)
              rw [Cub.val_inner, unhide HYV, ← hm, ← hov] at h
              exact h
            have hk' : (k + ov + m) / 1000000000 < 1000000000 := by rw [hm]; exact Cub.carry_lt 1000000000 k ov xv yv hk hoB hxB hyB
            have HZ' : Hid (∀ p (hp : p < (P.set (i + j) ((k + ov + m) % 1000000000)).length), i + nq ≤ p → (P.set (i + j) ((k + ov + m) % 1000000000))[p] = 0) := fun p hp hip => by
              rw [List.getElem_set_ne (by omega)]; exact unhide HZ p (by rw [List.length_set] at hp; exact hp) hip
            have HPn : Hid (OutU w (wr.setCell ⟨w.heap.size + 1 + 1 + 1, i + j, none⟩ (.int .u64 (((k : Int) + ((ov : Int) + (m : Int))) % 1000000000))) (.slice (some ⟨b1, o1, none⟩) np cp) (.slice (some ⟨b2, o2, none⟩) nq cq) (np + nq) (P.set (i + j) ((k + ov + m) % 1000000000))) := (unhide HP').set (i + j) ((k + ov + m) % 1000000000) _ (by omega)
            clear hov hyv hjl hm hpl HA HZ
            go_wp2
            go_roundw
            case rel => exact ⟨(k + ov + m) / 1000000000, j + 1, P.set (i + j) ((k + ov + m) % 1000000000), by go_num, by go_num, by omega, hk', HPn, HZ', HA'⟩
            case measure => simp [intOf]; omega
          · have hje : j = nq := by omega
            subst hje
            have hpl : i + j < P.length := by rw [(unhide HP').len]; omega
            have hz := unhide HZ (i + j) hpl (Nat.le_refl _)
            have hco := (unhide HP').own.cell (i + j) hpl
            rw [hz] at hco
            have hfo := (unhide HP').own.frozen (i + j)
            have HVn : Hid (Cub.limbs 1000000000 (P.set (i + j) k) ∧ Cub.lval 1000000000 (P.set (i + j) k) = Cub.lval 1000000000 (lp.take (i + 1)) * Cub.lval 1000000000 lq) := by
              have h := (unhide HA).val
              rw [List.take_of_length_le (by have := unhide HNQ; omega), ← unhide HV0, ← unhide HXV, Cub.val_outer] at h
              refine ⟨Cub.limbs_set (unhide HA).lim _ _ hk, ?_⟩
              have e := Cub.lval_set 1000000000 P (i + j) k hpl
              rw [hz] at e
              omega
            have HPn : Hid (OutU w (wr.setCell ⟨w.heap.size + 1 + 1 + 1, i + j, none⟩ (.int .u64 (k : Int))) (.slice (some ⟨b1, o1, none⟩) np cp) (.slice aq j cq) (np + j) (P.set (i + j) k)) := (unhide HP').set (i + j) k _ rfl
            clear hpl hz HA HZ
            go_wp2
            go_roundw
            case rel => exact ⟨i + 1, P.set (i + j) k, by go_num, by omega, HPn, HVn⟩
            case measure => simp [intOf]; omega
    · obtain ⟨t1, t2, _⟩ := Cub.lval_trim 1000000000 _ O rfl
      have HF : Hid (Cub.normal 1000000000 (Cub.trimN O) ∧ Cub.lval 1000000000 (Cub.trimN O) = Cub.lval 1000000000 lp * Cub.lval 1000000000 lq) := by
        refine ⟨t2 (unhide HV).1, ?_⟩
        rw [t1, (unhide HV).2, List.take_of_length_le (by have := unhide HNP; omega)]
      have hsz := (unhide HO).box.size
      have br := (unhide HO).box.c3
      have fr := (unhide HO).box.f3
      clear t1 t2
      go_wp2_with (go_at_call 78; refine (trim_any _ O _ ((unhide HO).own.row (np + nq) (np + nq) (unhide HO).len.symm (Nat.le_refl _) (by unfold maxLen; omega))).mono ?_; rintro e w6 ⟨v', rfl, hrow6, hb6⟩; obtain ⟨a6, cap6, rfl, hcap6⟩ := hrow6.form; obtain ⟨hc6, hf6⟩ := box_later hb6 (g := w.heap.size + 1 + 1) (by omega) br fr)
      refine bodyPost_ret (v := .agg #[.slice a6 (Cub.trimN O).length cap6]) (by simp [results, Tryz.results99, go_sem, hc6]) rfl ⟨_, rfl, ?_, ?_⟩
      · exact ⟨_, _, rfl, hrow6.box _ hc6 (no_int _ _ _), (unhide HF).1, (unhide HF).2⟩
      · exact ((unhide HO).box.below.trans (hb6.mono (by omega))).setCell (p := ⟨w.heap.size + 1 + 1, 0, none⟩) (show w.heap.size ≤ w.heap.size + 1 + 1 by omega) _
end Go.Proofs.YtijifpbpjinmhaaGreatDoor
namespace Cub
/-- After an even number of steps: x, y are what the steps make of x0, y0; the signs alternate; both ends stay at 0 or above. (After an odd number: the same with the columns exchanged.) -/
structure Ev (x0 y0 x y A B C D : Int) : Prop where
  ex : x = A * x0 + B * y0
  ey : y = C * x0 + D * y0
  sA : 0 ≤ A
  sB : B ≤ 0
  sC : C ≤ 0
  sD : 0 ≤ D
  det : A * D - B * C = 1
  p1 : 0 ≤ x + A
  p2 : 0 ≤ x + B
  r1 : 0 ≤ y + C
  r2 : 0 ≤ y + D
  bA : A ≤ 1000000000
  bB : -1000000000 ≤ B
  bC : -1000000000 ≤ C
  bD : D ≤ 1000000000
theorem Ev.start (x0 y0 : Int) (hx : 0 ≤ x0) (hy : 0 ≤ y0) : Ev x0 y0 x0 y0 1 0 0 1 := by
  constructor <;> omega
theorem sq_bound {C y : Int} (h0 : 0 ≤ C) (h1 : C ≤ y) (h2 : C * y < 1000000000000000000) : C ≤ 1000000000 := by
  apply Decidable.byContradiction
  intro hc
  have h3 : 1000000000 ≤ y := by omega
  have h4 : 1000000000 * 1000000000 ≤ C * y := Int.mul_le_mul (by omega) h3 (by omega) (by omega)
  omega
theorem Ev.step {x0 y0 x y A B C D q : Int} (h : Ev x0 y0 x y A B C D) (hq : 0 ≤ q) (a1 : q * (y + C) ≤ x + A) (a2 : x + A < q * (y + C) + (y + C)) (b1 : q * (y + D) ≤ x + B)
    (hx : x0 < 1000000000000000000) (hy : y0 < 1000000000000000000) : Ev y0 x0 y (x - q * y) D C (B - q * D) (A - q * C) := by
  have qD : 0 ≤ q * D := Int.mul_nonneg hq h.sD
  have qC : q * C ≤ 0 := Int.mul_nonpos_of_nonneg_of_nonpos hq h.sC
  have e1 : q * (y + C) = q * y + q * C := Int.mul_add ..
  have e2 : q * (y + D) = q * y + q * D := Int.mul_add ..
  have sA := h.sA; have sB := h.sB; have sC := h.sC; have sD := h.sD
  have ex := h.ex; have ey := h.ey; have det := h.det
  have r1 := h.r1; have r2 := h.r2
  have hy1 : 0 ≤ x - q * y := by omega
  have k1 : (A - q * C) * y - C * (x - q * y) = y0 := by
    have : (A - q * C) * y - C * (x - q * y) = A * y - C * x := by grind
    rw [this, ex, ey]
    have : A * (C * x0 + D * y0) - C * (A * x0 + B * y0) = (A * D - B * C) * y0 := by grind
    rw [this, det, Int.one_mul]
  have k2 : (q * D - B) * y + D * (x - q * y) = x0 := by
    have : (q * D - B) * y + D * (x - q * y) = D * x - B * y := by grind
    rw [this, ex, ey]
    have : D * (A * x0 + B * y0) - B * (C * x0 + D * y0) = (A * D - B * C) * x0 := by grind
    rw [this, det, Int.one_mul]
  have m1 : 0 ≤ -(C * (x - q * y)) := by
    have := Int.mul_nonpos_of_nonpos_of_nonneg sC hy1
    omega
  have m2 : 0 ≤ D * (x - q * y) := Int.mul_nonneg sD hy1
  have c1 : A - q * C ≤ 1000000000 := sq_bound (y := y) (by omega) (by omega) (by omega)
  have c2 : q * D - B ≤ 1000000000 := sq_bound (y := y) (by omega) (by omega) (by omega)
  refine ⟨?_, ?_, sD, sC, by omega, by omega, ?_, r2, r1, by omega, by omega, h.bD, h.bC, by omega, c1⟩
  · rw [ey]; omega
  · rw [ex, ey]; grind
  · have : D * (A - q * C) - C * (B - q * D) = A * D - B * C := by grind
    rw [this, det]
/-- The numbers themselves: what is left is not below 0, and below what divides. -/
theorem Ev.rest {x0 y0 x y A B C D q b c U P u v : Int} (h : Ev x0 y0 x y A B C D) (hq : 0 ≤ q) (a2 : x + A < q * (y + C) + (y + C)) (b1 : q * (y + D) ≤ x + B)
    (hb : b * U = x0 * P + u) (hc : c * U = y0 * P + v) (hu : 0 ≤ u) (hu2 : u ≤ P) (hv : 0 ≤ v) (hv2 : v ≤ P) (hP : 0 < P) (hU : 0 < U) :
    0 ≤ (A * b + B * c) - q * (C * b + D * c) ∧ (A * b + B * c) - q * (C * b + D * c) < C * b + D * c := by
  have qD : 0 ≤ q * D := Int.mul_nonneg hq h.sD
  have qC : q * C ≤ 0 := Int.mul_nonpos_of_nonneg_of_nonpos hq h.sC
  have sA := h.sA; have sB := h.sB; have sC := h.sC; have sD := h.sD
  have ex := h.ex; have ey := h.ey
  have e1 : U * ((A * b + B * c) - q * (C * b + D * c)) = (x - q * y) * P + (A - q * C) * u + (B - q * D) * v := by
    have : U * ((A * b + B * c) - q * (C * b + D * c)) = A * (b * U) + B * (c * U) - q * (C * (b * U) + D * (c * U)) := by grind
    rw [this, hb, hc, ex, ey]; grind
  have e2 : U * (C * b + D * c) = y * P + C * u + D * v := by
    have : U * (C * b + D * c) = C * (b * U) + D * (c * U) := by grind
    rw [this, hb, hc, ey]; grind
  have m1 : 0 ≤ (A - q * C) * u := Int.mul_nonneg (by omega) hu
  have m2 : (B - q * D) * P ≤ (B - q * D) * v := Int.mul_le_mul_of_nonpos_left (by omega) hv2
  have m3 : 0 ≤ ((x + B) - q * (y + D)) * P := Int.mul_nonneg (by omega) (by omega)
  have m4 : (x - q * y) * P + (B - q * D) * P = ((x + B) - q * (y + D)) * P := by grind
  have n1 : (A - q * C - C) * u ≤ (A - q * C - C) * P := Int.mul_le_mul_of_nonneg_left hu2 (by omega)
  have n2 : (B - q * D - D) * v ≤ 0 := Int.mul_nonpos_of_nonpos_of_nonneg (by omega) hv
  have n3 : ((x + A) - q * (y + C) - (y + C)) * P < 0 := Int.mul_neg_of_neg_of_pos (by omega) hP
  have n4 : (x - q * y) * P - y * P + (A - q * C - C) * P = ((x + A) - q * (y + C) - (y + C)) * P := by grind
  have n5 : (A - q * C - C) * u = (A - q * C) * u - C * u := by grind
  have n6 : (B - q * D - D) * v = (B - q * D) * v - D * v := by grind
  refine ⟨?_, ?_⟩
  · apply Decidable.byContradiction
    intro hn
    have : U * ((A * b + B * c) - q * (C * b + D * c)) < 0 := Int.mul_neg_of_pos_of_neg hU (by omega)
    omega
  · apply Decidable.byContradiction
    intro hn
    have h1 : U * (C * b + D * c) ≤ U * ((A * b + B * c) - q * (C * b + D * c)) := Int.mul_le_mul_of_nonneg_left (by omega) (by omega)
    omega
/-- A step of Euclid's keeps the greatest common divisor. -/
theorem gcd_step (b c q : Int) : Int.gcd c (b - q * c) = Int.gcd b c := by
  rw [Int.gcd_comm, Int.sub_eq_add_neg, ← Int.neg_mul, Int.gcd_add_mul_right_left]
/-- Steps of Euclid's on b0 and c0, told by what they make of the first digits x0 and y0. -/
structure LS (b0 c0 x0 y0 x y A B C D : Int) : Prop where
  ev : Ev x0 y0 x y A B C D ∨ Ev y0 x0 x y B A D C
  gcd : Int.gcd (A * b0 + B * c0) (C * b0 + D * c0) = Int.gcd b0 c0
  lo : 0 ≤ C * b0 + D * c0
  le : C * b0 + D * c0 ≤ A * b0 + B * c0
  now : (A = 1 ∧ B = 0 ∧ C = 0 ∧ D = 1) ∨ (A * b0 + B * c0 ≤ c0 ∧ C * b0 + D * c0 < c0)
  hx : x ≤ 1000000000000000000
  hy : y ≤ 1000000000000000000
theorem LS.start {b0 c0 x0 y0 : Int} (h1 : 0 ≤ c0) (h2 : c0 ≤ b0) (hx : 0 ≤ x0) (hy : 0 ≤ y0) (hx2 : x0 < 1000000000000000000) (hy2 : y0 < 1000000000000000000) : LS b0 c0 x0 y0 x0 y0 1 0 0 1 := by
  refine ⟨.inl (Ev.start x0 y0 hx hy), ?_, by omega, by omega, .inl ⟨rfl, rfl, rfl, rfl⟩, by omega, by omega⟩
  simp
theorem LS.bounds {b0 c0 x0 y0 x y A B C D : Int} (h : LS b0 c0 x0 y0 x y A B C D) :
    0 ≤ x + A ∧ 0 ≤ x + B ∧ 0 ≤ y + C ∧ 0 ≤ y + D ∧ (-1000000000 ≤ A ∧ A ≤ 1000000000) ∧ (-1000000000 ≤ B ∧ B ≤ 1000000000) ∧ (-1000000000 ≤ C ∧ C ≤ 1000000000) ∧ (-1000000000 ≤ D ∧ D ≤ 1000000000) ∧ 0 ≤ x ∧ 0 ≤ y ∧ ((0 ≤ A ∧ B ≤ 0) ∨ (A ≤ 0 ∧ 0 ≤ B)) ∧ ((0 ≤ C ∧ D ≤ 0) ∨ (C ≤ 0 ∧ 0 ≤ D)) := by
  rcases h.ev with h | h
  all_goals (
    have p1 := h.p1; have p2 := h.p2; have r1 := h.r1; have r2 := h.r2; have sA := h.sA; have sB := h.sB; have sC := h.sC; have sD := h.sD
    have bA := h.bA; have bB := h.bB; have bC := h.bC; have bD := h.bD
    omega)
theorem quo_facts {a b q : Int} (ha : 0 ≤ a) (hb : 0 ≤ b) (h0 : b ≠ 0) (hq : q = a / b) : 0 ≤ q ∧ q * b ≤ a ∧ a < q * b + b := by
  subst hq
  have h1 : 0 < b := by omega
  refine ⟨Int.ediv_nonneg ha hb, Int.ediv_mul_le a h0, ?_⟩
  have := Int.lt_ediv_add_one_mul_self a h1
  rw [Int.add_mul, Int.one_mul] at this
  exact this
theorem LS.step {b0 c0 x0 y0 x y A B C D q U P u v : Int} (h : LS b0 c0 x0 y0 x y A B C D) (e1 : y + C ≠ 0) (e2 : y + D ≠ 0) (hq1 : q = (x + A) / (y + C)) (hq2 : q = (x + B) / (y + D))
    (hx0 : x0 < 1000000000000000000) (hy0 : y0 < 1000000000000000000)
    (hb : b0 * U = x0 * P + u) (hc : c0 * U = y0 * P + v) (hu : 0 ≤ u) (hu2 : u ≤ P) (hv : 0 ≤ v) (hv2 : v ≤ P) (hP : 0 < P) (hU : 0 < U) :
    LS b0 c0 x0 y0 y (x - q * y) C D (A - q * C) (B - q * D) ∧ x - q * y < y ∧ 0 ≤ q := by
  obtain ⟨k1, k2, k3, k4, -, -, -, -, k5, k6, -, -⟩ := h.bounds
  obtain ⟨q0, f1, f2⟩ := quo_facts k1 k3 e1 hq1
  obtain ⟨-, g1, g2⟩ := quo_facts k2 k4 e2 hq2
  clear hq1 hq2
  have hN : (A - q * C) * b0 + (B - q * D) * c0 = (A * b0 + B * c0) - q * (C * b0 + D * c0) := by grind
  have E1 : q * (y + C) = q * y + q * C := Int.mul_add ..
  have E2 : q * (y + D) = q * y + q * D := Int.mul_add ..
  have hmain : (Ev x0 y0 y (x - q * y) C D (A - q * C) (B - q * D) ∨ Ev y0 x0 y (x - q * y) D C (B - q * D) (A - q * C)) ∧ (0 ≤ (A * b0 + B * c0) - q * (C * b0 + D * c0) ∧ (A * b0 + B * c0) - q * (C * b0 + D * c0) < C * b0 + D * c0) ∧ x - q * y < y := by
    rcases h.ev with h | h
    · refine ⟨.inr (h.step q0 f1 f2 g1 hx0 hy0), h.rest q0 f2 g1 hb hc hu hu2 hv hv2 hP hU, ?_⟩
      have sA := h.sA; have sC := h.sC
      have := Int.mul_nonpos_of_nonneg_of_nonpos q0 sC
      omega
    · refine ⟨.inl (h.step q0 g1 g2 f1 hy0 hx0), ?_, ?_⟩
      · have := h.rest q0 g2 f1 hc hb hv hv2 hu hu2 hP hU
        rw [Int.add_comm (B * c0), Int.add_comm (D * c0)] at this
        exact this
      · have sB := h.sA; have sD := h.sC
        have := Int.mul_nonpos_of_nonneg_of_nonpos q0 sD
        omega
  obtain ⟨m1, ⟨m2, m3⟩, m4⟩ := hmain
  refine ⟨⟨m1, ?_, by omega, by omega, .inr ?_, h.hy, by have := h.hy; omega⟩, m4, q0⟩
  · rw [hN, gcd_step]; exact h.gcd
  · rw [hN]
    rcases h.now with ⟨rfl, rfl, rfl, rfl⟩ | ⟨n1, n2⟩
    · omega
    · omega
/-- What stands behind the steps: sizes, and products that the machine works out. -/
theorem LS.products {b0 c0 x0 y0 x y A B C D q : Int} (h : LS b0 c0 x0 y0 x y A B C D) (h' : LS b0 c0 x0 y0 y (x - q * y) C D (A - q * C) (B - q * D)) (q0 : 0 ≤ q) :
    (-2000000000 ≤ q * C ∧ q * C ≤ 2000000000) ∧ (-2000000000 ≤ q * D ∧ q * D ≤ 2000000000) ∧ 0 ≤ q * y ∧ q * y ≤ 1000000000000000000 := by
  obtain ⟨-, -, -, -, a1, a2, a3, a4, k5, k6, -, -⟩ := h.bounds
  obtain ⟨-, -, -, -, b1, b2, b3, b4, l5, l6, -, -⟩ := h'.bounds
  have := Int.mul_nonneg q0 k6
  have := h.hx
  omega
/-- One row out of two: times one number and more times another. -/
structure TG (lb lc S : List Nat) (t m k : Int) (i : Nat) : Prop where
  len : S.length = lb.length
  limbs : limbs 1000000000 S
  eq : (lval 1000000000 (S.take i) : Int) + k * (1000000000 ^ i : Nat) = t * (lval 1000000000 (lb.take i) : Nat) + m * (lval 1000000000 (lc.take i) : Nat)
  k1 : -1000000000 ≤ k
  k2 : k ≤ 999999999
theorem TG.start (lb lc : List Nat) (t m : Int) : TG lb lc (List.replicate lb.length 0) t m 0 0 := by
  refine ⟨by simp, ?_, by simp [lval], by omega, by omega⟩
  intro x hx
  have := List.eq_of_mem_replicate hx
  omega
theorem opp_bound {t m x z : Int} (ht : -1000000000 ≤ t ∧ t ≤ 1000000000) (hm : -1000000000 ≤ m ∧ m ≤ 1000000000) (hs : (0 ≤ t ∧ m ≤ 0) ∨ (t ≤ 0 ∧ 0 ≤ m)) (hx : 0 ≤ x ∧ x ≤ 999999999) (hz : 0 ≤ z ∧ z ≤ 999999999) :
    -999999999000000000 ≤ t * x + m * z ∧ t * x + m * z ≤ 999999999000000000 ∧ (-999999999000000000 ≤ t * x ∧ t * x ≤ 999999999000000000) ∧ (-999999999000000000 ≤ m * z ∧ m * z ≤ 999999999000000000) := by
  have pos : ∀ {a b : Int}, 0 ≤ a → a ≤ 1000000000 → 0 ≤ b → b ≤ 999999999 → 0 ≤ a * b ∧ a * b ≤ 999999999000000000 := by
    intro a b h1 h2 h3 h4
    have := Int.mul_le_mul h2 h4 h3 (by omega)
    exact ⟨Int.mul_nonneg h1 h3, by omega⟩
  rcases hs with ⟨s1, s2⟩ | ⟨s1, s2⟩
  · have p := pos s1 ht.2 hx.1 hx.2
    have n := pos (a := -m) (b := z) (by omega) (by omega) hz.1 hz.2
    rw [Int.neg_mul] at n
    omega
  · have p := pos s2 hm.2 hz.1 hz.2
    have n := pos (a := -t) (b := x) (by omega) (by omega) hx.1 hx.2
    rw [Int.neg_mul] at n
    omega
theorem take_getD (l : List Nat) (i : Nat) : lval 1000000000 (l.take (i + 1)) = lval 1000000000 (l.take i) + 1000000000 ^ i * l.getD i 0 := by
  by_cases h : i < l.length
  · rw [take_val l i h]; simp [List.getD, h]
  · rw [take_val' l i (by omega)]; simp [List.getD, List.getElem?_eq_none (Nat.le_of_not_lt h)]
theorem TG.step {lb lc S : List Nat} {t m k s : Int} {i : Nat} (h : TG lb lc S t m k i) (hi : i < lb.length) (hs : s = k + 1000000000000000000 + t * (lb.getD i 0 : Nat) + m * (lc.getD i 0 : Nat))
    (s0 : 0 ≤ s) (s1 : s ≤ 1999999999999999999) : TG lb lc (S.set i (s % 1000000000).toNat) t m (s / 1000000000 - 1000000000) (i + 1) := by
  have hlen := h.len
  have hm0 : 0 ≤ s % 1000000000 := Int.emod_nonneg _ (by decide)
  have hm1 : s % 1000000000 < 1000000000 := Int.emod_lt_of_pos _ (by decide)
  refine ⟨by rw [List.length_set]; exact h.len, limbs_set h.limbs _ _ (by omega), ?_, by omega, by omega⟩
  have e1 : lval 1000000000 ((S.set i (s % 1000000000).toNat).take (i + 1)) = lval 1000000000 (S.take i) + 1000000000 ^ i * (s % 1000000000).toNat := by
    rw [take_val _ i (by rw [List.length_set]; omega)]
    rw [List.getElem_set_self, List.take_set_of_le (Nat.le_refl _)]
  rw [e1, take_getD lb i, take_getD lc i]
  have e := h.eq
  have ed : s = 1000000000 * (s / 1000000000) + s % 1000000000 := (Int.mul_ediv_add_emod s 1000000000).symm
  have e2 : (((s % 1000000000).toNat : Nat) : Int) = s % 1000000000 := Int.toNat_of_nonneg hm0
  generalize lb.getD i 0 = xb at *
  generalize lc.getD i 0 = xc at *
  generalize lval 1000000000 (S.take i) = vs at *
  generalize lval 1000000000 (lb.take i) = vb at *
  generalize lval 1000000000 (lc.take i) = vc at *
  rw [Nat.pow_succ]
  generalize (1000000000 : Nat) ^ i = p at *
  simp only [Int.natCast_add, Int.natCast_mul, e2, show ((1000000000 : Nat) : Int) = 1000000000 from rfl]
  generalize s / 1000000000 = d at *
  generalize s % 1000000000 = r at *
  have : (vs : Int) + p * r + (d - 1000000000) * (p * 1000000000) = (vs + k * p) + p * ((1000000000 * d + r) - k - 1000000000000000000) := by grind
  rw [this, ← ed, e, hs]
  grind
theorem TG.done {lb lc S : List Nat} {t m k : Int} {i : Nat} (h : TG lb lc S t m k i) (hi : i = lb.length) (hl : lc.length ≤ lb.length) (N : Nat)
    (hN : (N : Int) = t * (lval 1000000000 lb : Nat) + m * (lval 1000000000 lc : Nat)) (hle : N < 1000000000 ^ lb.length) : lval 1000000000 S = N := by
  subst hi
  have e := h.eq
  rw [List.take_of_length_le (by rw [h.len]; exact Nat.le_refl _), List.take_of_length_le (Nat.le_refl _), List.take_of_length_le hl, ← hN] at e
  have hS := lval_lt h.limbs
  rw [h.len] at hS
  generalize lval 1000000000 S = vs at *
  generalize (1000000000 : Nat) ^ lb.length = p at *
  have k0 : k = 0 := by
    rcases Int.lt_trichotomy k 0 with hk | hk | hk
    · have : k * (p : Int) ≤ -1 * (p : Int) := Int.mul_le_mul_of_nonneg_right (by omega) (by omega)
      omega
    · exact hk
    · have : 1 * (p : Int) ≤ k * (p : Int) := Int.mul_le_mul_of_nonneg_right (by omega) (by omega)
      omega
  rw [k0, Int.zero_mul] at e
  omega
/-- The first digits of a row of three limbs or more, the row moved up. -/
theorem first_digits (low : List Nat) (p q r up e : Nat) (hl : limbs 1000000000 low) (hue : up * e = 1000000000) :
    ∃ u, lval 1000000000 (low ++ [p, q, r]) * up = ((r * 1000000000 + q) * up + p / e) * 1000000000 ^ (low.length + 1) + u ∧ u < 1000000000 ^ (low.length + 1) := by
  have hv := lval_lt hl
  have he : 0 < e := by rcases Nat.eq_zero_or_pos e with h | h; · rw [h] at hue; omega
                        · exact h
  have hu : 0 < up := by rcases Nat.eq_zero_or_pos up with h | h; · rw [h] at hue; omega
                         · exact h
  refine ⟨up * (lval 1000000000 low + 1000000000 ^ low.length * (p % e)), ?_, ?_⟩
  · rw [lval_append]
    have e3 : lval 1000000000 [p, q, r] = p + 1000000000 * (q + 1000000000 * r) := by simp [lval]
    rw [e3, Nat.pow_succ]
    generalize lval 1000000000 low = v at *
    generalize (1000000000 : Nat) ^ low.length = b at *
    have hp := Nat.div_add_mod p e
    generalize p / e = d at *
    generalize p % e = m at *
    rw [← hp]
    have : (v + b * (e * d + m + 1000000000 * (q + 1000000000 * r))) * up = (r * 1000000000 + q) * up * (b * 1000000000) + (up * e) * (b * d) + up * (v + b * m) := by grind
    rw [this, hue]
    grind
  · have hm : p % e < e := Nat.mod_lt _ he
    rw [Nat.pow_succ]
    generalize lval 1000000000 low = v at *
    generalize (1000000000 : Nat) ^ low.length = b at *
    generalize p % e = m at *
    have h1 : v + b * m < b * e := by
      have : b * m + b ≤ b * e := by rw [← Nat.mul_succ]; exact Nat.mul_le_mul_left _ hm
      omega
    have h2 : up * (v + b * m) < up * (b * e) := Nat.mul_lt_mul_of_pos_left h1 hu
    have h3 : up * (b * e) = b * (up * e) := by grind
    rw [hue] at h3
    omega
end Cub
