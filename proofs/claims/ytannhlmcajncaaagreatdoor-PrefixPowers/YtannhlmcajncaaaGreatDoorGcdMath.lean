/- The greatest common divisor by Lehmer's steps: plain facts. No program is named here. -/
import Derived.Test.YtannhlmcajncaaaGreatDoorAddSigned
import Derived.Deep.RegionHeld3
import Derived.Test.YtannhlmcajncaaaGreatDoorNTell
import Derived.Test.YtannhlmcajncaaaGreatDoorLimb2
import Derived.Test.YtannhlmcajncaaaGreatDoorMulMath
import Derived.Test.YtannhlmcajncaaaGreatDoorShelf
namespace Go.Proofs.YtannhlmcajncaaaGreatDoor
open Go.RowKit

/-- A Frac holds a sign and two numbers (its cells lie flat). -/
def IsFrac (w : World) (v : Value) (b : Bool) (n d : Nat) : Prop := ∃ s t, v = .agg #[.bool b, s, t] ∧ IsBig w (.agg #[s]) n ∧ IsBig w (.agg #[t]) d
theorem IsFrac.later {w w' : World} {v : Value} {b : Bool} {n d : Nat} (h : IsFrac w v b n d) (hb : Below w.heap.size w w') : IsFrac w' v b n d := by
  obtain ⟨s, t, rfl, h1, h2⟩ := h
  exact ⟨s, t, rfl, h1.later hb, h2.later hb⟩
theorem IsFrac.form {w : World} {v : Value} {b : Bool} {n d : Nat} (h : IsFrac w v b n d) : ∃ a1 l1 c1 a2 l2 c2, v = .agg #[.bool b, .slice a1 l1 c1, .slice a2 l2 c2] ∧ IsBig w (.agg #[.slice a1 l1 c1]) n ∧ IsBig w (.agg #[.slice a2 l2 c2]) d := by
  obtain ⟨s, t, rfl, h1, h2⟩ := h
  obtain ⟨a1, l1, c1, e1⟩ := h1.shape
  obtain ⟨a2, l2, c2, e2⟩ := h2.shape
  simp only [Value.agg.injEq, Array.mk.injEq, List.cons.injEq, and_true] at e1 e2
  subst e1 e2
  exact ⟨a1, l1, c1, a2, l2, c2, rfl, h1, h2⟩
theorem inv_any (v : Value) (b : Bool) (n d : Nat) (w : World) (h : IsFrac w v b n d) :
    Calls Tryz.prog 25 #[v] w fun e w' => ∃ v', e = .returned v' ∧ IsFrac w' v' b d n ∧ Below w.heap.size w w' := by
  obtain ⟨a1, l1, c1, a2, l2, c2, rfl, h1, h2⟩ := h.form
  have H1 := hide h1
  have H2 := hide h2
  clear h h1 h2
  go_enter Tryz.func25, Tryz.ntmps25
  go_wp2
  have hb : Below w.heap.size w ((w.alloc (.cells #[.bool b, .slice a1 l1 c1, .slice a2 l2 c2] 60)).alloc (.cells #[.bool b, .slice a2 l2 c2, .slice a1 l1 c1] 60)) := ((Below.refl _ _).alloc (Nat.le_refl _) _).alloc (by simp) _
  exact bodyPost_ret (v := .agg #[.bool b, .slice a2 l2 c2, .slice a1 l1 c1]) (by simp [results, Tryz.results25, go_sem]) rfl ⟨_, rfl, ⟨_, _, rfl, (unhide H2).later hb, (unhide H1).later hb⟩, hb⟩
/-- Frac.Sign, as an answer. -/
def signI (b : Bool) (n : Nat) : Int := if b then -1 else if n = 0 then 0 else 1
theorem sign_any (v : Value) (b : Bool) (n d : Nat) (w : World) (h : IsFrac w v b n d) :
    Calls Tryz.prog 24 #[v] w fun e w' => e = .returned (.int .i64 (signI b n)) ∧ Below w.heap.size w w' := by
  obtain ⟨a1, l1, c1, a2, l2, c2, rfl, h1, h2⟩ := h.form
  have hb : Below w.heap.size w (w.alloc (.cells #[.bool b, .slice a1 l1 c1, .slice a2 l2 c2] 60)) := (Below.refl _ _).alloc (Nat.le_refl _) _
  have H37 := hide (isZero_any _ n _ (h1.later hb))
  have HB := hide hb
  clear h h1 h2 hb
  cases b with
  | true =>
    go_enter Tryz.func24, Tryz.ntmps24
    go_wp2
    go_ret
    exact ⟨rfl, unhide HB⟩
  | false =>
    by_cases hn : n = 0
    · subst hn
      go_enter Tryz.func24, Tryz.ntmps24
      go_wp2_with (go_at_call 73; go_must (refine (unhide H37).mono ?_; rintro e w1 ⟨rfl, hb1⟩; have HB1 := hide ((unhide HB).trans (hb1.mono (unhide HB).size)); clear hb1))
      go_ret
      exact ⟨rfl, unhide HB1⟩
    · have e : (n == 0) = false := by rw [beq_eq_false_iff_ne]; exact hn
      have HE : Hid (signI false n = 1) := by show _ = _; simp [signI, hn]
      rw [e] at H37
      rw [unhide HE]
      clear e hn HE
      go_enter Tryz.func24, Tryz.ntmps24
      go_wp2_with (go_at_call 73; go_must (refine (unhide H37).mono ?_; rintro e w1 ⟨rfl, hb1⟩; have HB1 := hide ((unhide HB).trans (hb1.mono (unhide HB).size)); clear hb1))
      go_ret
      exact ⟨rfl, unhide HB1⟩
end Go.Proofs.YtannhlmcajncaaaGreatDoor

namespace Go.Proofs.YtannhlmcajncaaaGreatDoor
open Go.RowKit

/-- A Frac's box: three cells. -/
structure FBox (W : World) (g : Nat) (x y z : Value) : Prop where
  c0 : W.cell? ⟨g, 0, none⟩ = some x
  c1 : W.cell? ⟨g, 1, none⟩ = some y
  c2 : W.cell? ⟨g, 2, none⟩ = some z
  f0 : W.frozen? ⟨g, 0, none⟩ = false
  f1 : W.frozen? ⟨g, 1, none⟩ = false
  f2 : W.frozen? ⟨g, 2, none⟩ = false
theorem FBox.lt {W : World} {g : Nat} {x y z : Value} (h : FBox W g x y z) : g < W.heap.size := World.block_lt_of_cell? _ _ h.c0
theorem FBox.later {W V : World} {g : Nat} {x y z : Value} (h : FBox W g x y z) (hb : Below W.heap.size W V) : FBox V g x y z :=
  ⟨(hb.cell (p := ⟨g, 0, none⟩) h.lt).trans h.c0, (hb.cell (p := ⟨g, 1, none⟩) h.lt).trans h.c1, (hb.cell (p := ⟨g, 2, none⟩) h.lt).trans h.c2,
    (hb.frozen (p := ⟨g, 0, none⟩) h.lt).trans h.f0, (hb.frozen (p := ⟨g, 1, none⟩) h.lt).trans h.f1, (hb.frozen (p := ⟨g, 2, none⟩) h.lt).trans h.f2⟩
/-- A whole Frac stored into its box. -/
def store3 (W : World) (g : Nat) (x y z : Value) : World := ((W.setCell ⟨g, 0, none⟩ x).setCell ⟨g, 1, none⟩ y).setCell ⟨g, 2, none⟩ z
theorem FBox.store {W : World} {g : Nat} {x y z : Value} (h : FBox W g x y z) (x' y' z' : Value) : FBox (store3 W g x' y' z') g x' y' z' := by
  have a1 : (W.setCell ⟨g, 0, none⟩ x').cell? ⟨g, 1, none⟩ = some y := by rw [World.cell?_setCell_other _ _ _ _ (by simp)]; exact h.c1
  have a2 : ((W.setCell ⟨g, 0, none⟩ x').setCell ⟨g, 1, none⟩ y').cell? ⟨g, 2, none⟩ = some z := by rw [World.cell?_setCell_other _ _ _ _ (by simp), World.cell?_setCell_other _ _ _ _ (by simp)]; exact h.c2
  unfold store3
  refine ⟨?_, ?_, World.cell?_setCell_same _ _ _ a2, ?_, ?_, ?_⟩
  · rw [World.cell?_setCell_other _ _ _ _ (by simp), World.cell?_setCell_other _ _ _ _ (by simp)]; exact World.cell?_setCell_same _ _ _ h.c0
  · rw [World.cell?_setCell_other _ _ _ _ (by simp)]; exact World.cell?_setCell_same _ _ _ a1
  · rw [World.frozen?_setCell, World.frozen?_setCell, World.frozen?_setCell]; exact h.f0
  · rw [World.frozen?_setCell, World.frozen?_setCell, World.frozen?_setCell]; exact h.f1
  · rw [World.frozen?_setCell, World.frozen?_setCell, World.frozen?_setCell]; exact h.f2
theorem FBox.big {W : World} {g : Nat} {b : Bool} {a1 a2 : Option Addr} {l1 c1 l2 c2 : Nat} (h : FBox W g (.bool b) (.slice a1 l1 c1) (.slice a2 l2 c2)) (x' y' z' : Value) {v : Value} {n : Nat} (hv : IsBig W v n) : IsBig (store3 W g x' y' z') v n := by
  have e1 : (W.setCell ⟨g, 0, none⟩ x').cell? ⟨g, 1, none⟩ = some (.slice a1 l1 c1) := by rw [World.cell?_setCell_other _ _ _ _ (by simp)]; exact h.c1
  have e2 : ((W.setCell ⟨g, 0, none⟩ x').setCell ⟨g, 1, none⟩ y').cell? ⟨g, 2, none⟩ = some (.slice a2 l2 c2) := by rw [World.cell?_setCell_other _ _ _ _ (by simp), World.cell?_setCell_other _ _ _ _ (by simp)]; exact h.c2
  exact ((hv.box _ h.c0 (fun _ _ e => by cases e)).box _ e1 (not_int _ _ _)).box _ e2 (not_int _ _ _)
theorem below_store3 {B g : Nat} {w W : World} (h : Below B w W) (hg : B ≤ g) (x y z : Value) : Below B w (store3 W g x y z) :=
  ((h.setCell (p := ⟨g, 0, none⟩) hg x).setCell (p := ⟨g, 1, none⟩) hg y).setCell (p := ⟨g, 2, none⟩) hg z

set_option maxRecDepth 100000 in
theorem whole_any (u : Nat) (w : World) (hu : u < 18446744073709551616) :
    Calls Tryz.prog 85 #[.int .u64 (u : Int)] w fun e w' => ∃ v', e = .returned v' ∧ IsFrac w' v' false u 1 ∧ Below w.heap.size w w' := by
  have HB0 : Hid (Below w.heap.size w (w.alloc (.cells #[.bool false, .slice none 0 0, .slice none 0 0] 60))) := (Below.refl _ _).alloc (Nat.le_refl _) _
  have H1 := hide (bigOf_any u (w.alloc (.cells #[.bool false, .slice none 0 0, .slice none 0 0] 60)) hu)
  have H2 := hide (fun W => bigOf_any 1 W (by omega))
  have HC : Hid (∀ W, Below (w.heap.size + 1) (w.alloc (.cells #[.bool false, .slice none 0 0, .slice none 0 0] 60)) W → W.cell? ⟨w.heap.size, 0, none⟩ = some (.bool false) ∧ W.cell? ⟨w.heap.size, 1, none⟩ = some (.slice none 0 0) ∧ W.cell? ⟨w.heap.size, 2, none⟩ = some (.slice none 0 0) ∧ W.frozen? ⟨w.heap.size, 0, none⟩ = false ∧ W.frozen? ⟨w.heap.size, 1, none⟩ = false ∧ W.frozen? ⟨w.heap.size, 2, none⟩ = false) := fun W hb => by
    refine ⟨?_, ?_, ?_, ?_, ?_, ?_⟩
    · rw [hb.cell (p := ⟨w.heap.size, 0, none⟩) (show w.heap.size < w.heap.size + 1 by omega)]; simp [go_sem]
    · rw [hb.cell (p := ⟨w.heap.size, 1, none⟩) (show w.heap.size < w.heap.size + 1 by omega)]; simp [go_sem]
    · rw [hb.cell (p := ⟨w.heap.size, 2, none⟩) (show w.heap.size < w.heap.size + 1 by omega)]; simp [go_sem]
    · rw [hb.frozen (p := ⟨w.heap.size, 0, none⟩) (show w.heap.size < w.heap.size + 1 by omega)]; simp [go_sem]
    · rw [hb.frozen (p := ⟨w.heap.size, 1, none⟩) (show w.heap.size < w.heap.size + 1 by omega)]; simp [go_sem]
    · rw [hb.frozen (p := ⟨w.heap.size, 2, none⟩) (show w.heap.size < w.heap.size + 1 by omega)]; simp [go_sem]
  clear hu
  go_enter Tryz.func85, Tryz.ntmps85
  go_wp2_with (first
    | (go_at_call_of 93 (Value.int .u64 (u : Int)); go_must (refine (unhide H1).mono ?_; rintro e w1 ⟨a1, l1, c1, rfl, hv1, hb1⟩; have HV1 := hide hv1; have HB1 := hide hb1; have hs1 := hb1.size; clear hv1 hb1))
    | (go_at_call 93; go_must (refine (unhide H2 w1).mono ?_; rintro e w2 ⟨a2, l2, c2, rfl, hv2, hb2⟩; have HV2 := hide hv2; have HV1' := hide ((unhide HV1).later hb2); have HB2 := hide ((unhide HB1).trans (hb2.mono hs1)); have h1 : w.heap.size + 1 ≤ (w.alloc (.cells #[.bool false, .slice none 0 0, .slice none 0 0] 60)).heap.size := (by simp); obtain ⟨q0, q1, q2, g0, g1, g2⟩ := unhide HC w2 ((unhide HB2).mono h1); clear hv2 hb2)))
  have hF : FBox w2 w.heap.size (.bool false) (.slice none 0 0) (.slice none 0 0) := ⟨q0, q1, q2, g0, g1, g2⟩
  have hS := hF.store (.bool false) (.slice a1 l1 c1) (.slice a2 l2 c2)
  have hb : Below w.heap.size w (store3 w2 w.heap.size (.bool false) (.slice a1 l1 c1) (.slice a2 l2 c2)) := below_store3 ((unhide HB0).trans ((unhide HB2).mono (by simp))) (Nat.le_refl _) _ _ _
  have r0 := hS.c0; have r1 := hS.c1; have r2 := hS.c2
  exact bodyPost_ret (v := .agg #[.bool false, .slice a1 l1 c1, .slice a2 l2 c2]) (w := store3 w2 w.heap.size (.bool false) (.slice a1 l1 c1) (.slice a2 l2 c2)) (by simp [results, Tryz.results85, go_sem, r0, r1, r2]) rfl ⟨_, rfl, ⟨_, _, rfl, hF.big _ _ _ (unhide HV1'), hF.big _ _ _ (unhide HV2)⟩, hb⟩
end Go.Proofs.YtannhlmcajncaaaGreatDoor

namespace Go.Proofs.YtannhlmcajncaaaGreatDoor
open Go.RowKit

theorem FBox.other {W : World} {g k : Nat} {x y z : Value} (h : FBox W g x y z) (hk : g ≠ k) (u : Value) : FBox (W.setCell ⟨k, 0, none⟩ u) g x y z :=
  ⟨by rw [World.cell?_setCell_other _ _ _ _ (by intro e; cases e; exact hk rfl)]; exact h.c0, by rw [World.cell?_setCell_other _ _ _ _ (by intro e; cases e)]; exact h.c1, by rw [World.cell?_setCell_other _ _ _ _ (by intro e; cases e)]; exact h.c2,
    by rw [World.frozen?_setCell]; exact h.f0, by rw [World.frozen?_setCell]; exact h.f1, by rw [World.frozen?_setCell]; exact h.f2⟩
/-- Two numbers in their boxes, and a Frac's box. -/
structure RSt (w W : World) (u v : Value) : Prop where
  b1 : Box W w.heap.size u
  b2 : Box W (w.heap.size + 1) v
  b3 : FBox W (w.heap.size + 1 + 1) (.bool false) (.slice none 0 0) (.slice none 0 0)
  below : Below w.heap.size w W
theorem RSt.later {w W V : World} {u v : Value} (s : RSt w W u v) (hb : Below W.heap.size W V) : RSt w V u v :=
  ⟨s.b1.later hb, s.b2.later hb, s.b3.later hb, s.below.trans (hb.mono s.below.size)⟩
theorem RSt.first (w : World) (u v : Value) : RSt w (((w.alloc (.cells #[u] 58)).alloc (.cells #[v] 58)).alloc (.cells #[.bool false, .slice none 0 0, .slice none 0 0] 60)) u v :=
  ⟨⟨by simp [go_sem], by simp [go_sem]⟩, ⟨by simp [go_sem], by simp [go_sem]⟩, ⟨by simp [go_sem], by simp [go_sem], by simp [go_sem], by simp [go_sem], by simp [go_sem], by simp [go_sem]⟩,
    (((Below.refl _ _).alloc (Nat.le_refl _) _).alloc (by simp) _).alloc (by simp; omega) _⟩
theorem RSt.both {w W : World} {u v : Value} (s : RSt w W u v) (x y : Value) : RSt w ((W.setCell ⟨w.heap.size, 0, none⟩ x).setCell ⟨w.heap.size + 1, 0, none⟩ y) x y :=
  ⟨(s.b1.set x).other (by omega) y, (s.b2.other (by omega) x).set y, (s.b3.other (by omega) x).other (by omega) y, (s.below.setCell (by simp) _).setCell (by simp) _⟩

end Go.Proofs.YtannhlmcajncaaaGreatDoor

namespace Cub
/-- After an even number of steps: x, y are what the steps make of x0, y0; the signs alternate; both ends stay at 0 or above. (After an odd number: the same with the columns exchanged.) -/
structure Ev (x0 y0 x y A B C D : Int) : Prop where
  ex : x = A * x0 + B * y0
  ey : y = C * x0 + D * y0
  sA : 0 ≤ A
  sB : B ≤ 0
  sC : C ≤ 0
  sD : 0 ≤ D
  det : A * D - B * C = 1
  p1 : 0 ≤ x + A
  p2 : 0 ≤ x + B
  r1 : 0 ≤ y + C
  r2 : 0 ≤ y + D
  bA : A ≤ 1000000000
  bB : -1000000000 ≤ B
  bC : -1000000000 ≤ C
  bD : D ≤ 1000000000
theorem Ev.start (x0 y0 : Int) (hx : 0 ≤ x0) (hy : 0 ≤ y0) : Ev x0 y0 x0 y0 1 0 0 1 := by
  constructor <;> omega
theorem sq_bound {C y : Int} (h0 : 0 ≤ C) (h1 : C ≤ y) (h2 : C * y < 1000000000000000000) : C ≤ 1000000000 := by
  apply Decidable.byContradiction
  intro hc
  have h3 : 1000000000 ≤ y := by omega
  have h4 : 1000000000 * 1000000000 ≤ C * y := Int.mul_le_mul (by omega) h3 (by omega) (by omega)
  omega
theorem Ev.step {x0 y0 x y A B C D q : Int} (h : Ev x0 y0 x y A B C D) (hq : 0 ≤ q) (a1 : q * (y + C) ≤ x + A) (a2 : x + A < q * (y + C) + (y + C)) (b1 : q * (y + D) ≤ x + B)
    (hx : x0 < 1000000000000000000) (hy : y0 < 1000000000000000000) : Ev y0 x0 y (x - q * y) D C (B - q * D) (A - q * C) := by
  have qD : 0 ≤ q * D := Int.mul_nonneg hq h.sD
  have qC : q * C ≤ 0 := Int.mul_nonpos_of_nonneg_of_nonpos hq h.sC
  have e1 : q * (y + C) = q * y + q * C := Int.mul_add ..
  have e2 : q * (y + D) = q * y + q * D := Int.mul_add ..
  have sA := h.sA; have sB := h.sB; have sC := h.sC; have sD := h.sD
  have ex := h.ex; have ey := h.ey; have det := h.det
  have r1 := h.r1; have r2 := h.r2
  have hy1 : 0 ≤ x - q * y := by omega
  have k1 : (A - q * C) * y - C * (x - q * y) = y0 := by
    have : (A - q * C) * y - C * (x - q * y) = A * y - C * x := by grind
    rw [this, ex, ey]
    have : A * (C * x0 + D * y0) - C * (A * x0 + B * y0) = (A * D - B * C) * y0 := by grind
    rw [this, det, Int.one_mul]
  have k2 : (q * D - B) * y + D * (x - q * y) = x0 := by
    have : (q * D - B) * y + D * (x - q * y) = D * x - B * y := by grind
    rw [this, ex, ey]
    have : D * (A * x0 + B * y0) - B * (C * x0 + D * y0) = (A * D - B * C) * x0 := by grind
    rw [this, det, Int.one_mul]
  have m1 : 0 ≤ -(C * (x - q * y)) := by
    have := Int.mul_nonpos_of_nonpos_of_nonneg sC hy1
    omega
  have m2 : 0 ≤ D * (x - q * y) := Int.mul_nonneg sD hy1
  have c1 : A - q * C ≤ 1000000000 := sq_bound (y := y) (by omega) (by omega) (by omega)
  have c2 : q * D - B ≤ 1000000000 := sq_bound (y := y) (by omega) (by omega) (by omega)
  refine ⟨?_, ?_, sD, sC, by omega, by omega, ?_, r2, r1, by omega, by omega, h.bD, h.bC, by omega, c1⟩
  · rw [ey]; omega
  · rw [ex, ey]; grind
  · have : D * (A - q * C) - C * (B - q * D) = A * D - B * C := by grind
    rw [this, det]
/-- The numbers themselves: what is left is not below 0, and below what divides. -/
theorem Ev.rest {x0 y0 x y A B C D q b c U P u v : Int} (h : Ev x0 y0 x y A B C D) (hq : 0 ≤ q) (a2 : x + A < q * (y + C) + (y + C)) (b1 : q * (y + D) ≤ x + B)
    (hb : b * U = x0 * P + u) (hc : c * U = y0 * P + v) (hu : 0 ≤ u) (hu2 : u ≤ P) (hv : 0 ≤ v) (hv2 : v ≤ P) (hP : 0 < P) (hU : 0 < U) :
    0 ≤ (A * b + B * c) - q * (C * b + D * c) ∧ (A * b + B * c) - q * (C * b + D * c) < C * b + D * c := by
  have qD : 0 ≤ q * D := Int.mul_nonneg hq h.sD
  have qC : q * C ≤ 0 := Int.mul_nonpos_of_nonneg_of_nonpos hq h.sC
  have sA := h.sA; have sB := h.sB; have sC := h.sC; have sD := h.sD
  have ex := h.ex; have ey := h.ey
  have e1 : U * ((A * b + B * c) - q * (C * b + D * c)) = (x - q * y) * P + (A - q * C) * u + (B - q * D) * v := by
    have : U * ((A * b + B * c) - q * (C * b + D * c)) = A * (b * U) + B * (c * U) - q * (C * (b * U) + D * (c * U)) := by grind
    rw [this, hb, hc, ex, ey]; grind
  have e2 : U * (C * b + D * c) = y * P + C * u + D * v := by
    have : U * (C * b + D * c) = C * (b * U) + D * (c * U) := by grind
    rw [this, hb, hc, ey]; grind
  have m1 : 0 ≤ (A - q * C) * u := Int.mul_nonneg (by omega) hu
  have m2 : (B - q * D) * P ≤ (B - q * D) * v := Int.mul_le_mul_of_nonpos_left (by omega) hv2
  have m3 : 0 ≤ ((x + B) - q * (y + D)) * P := Int.mul_nonneg (by omega) (by omega)
  have m4 : (x - q * y) * P + (B - q * D) * P = ((x + B) - q * (y + D)) * P := by grind
  have n1 : (A - q * C - C) * u ≤ (A - q * C - C) * P := Int.mul_le_mul_of_nonneg_left hu2 (by omega)
  have n2 : (B - q * D - D) * v ≤ 0 := Int.mul_nonpos_of_nonpos_of_nonneg (by omega) hv
  have n3 : ((x + A) - q * (y + C) - (y + C)) * P < 0 := Int.mul_neg_of_neg_of_pos (by omega) hP
  have n4 : (x - q * y) * P - y * P + (A - q * C - C) * P = ((x + A) - q * (y + C) - (y + C)) * P := by grind
  have n5 : (A - q * C - C) * u = (A - q * C) * u - C * u := by grind
  have n6 : (B - q * D - D) * v = (B - q * D) * v - D * v := by grind
  refine ⟨?_, ?_⟩
  · apply Decidable.byContradiction
    intro hn
    have : U * ((A * b + B * c) - q * (C * b + D * c)) < 0 := Int.mul_neg_of_pos_of_neg hU (by omega)
    omega
  · apply Decidable.byContradiction
    intro hn
    have h1 : U * (C * b + D * c) ≤ U * ((A * b + B * c) - q * (C * b + D * c)) := Int.mul_le_mul_of_nonneg_left (by omega) (by omega)
    omega
/-- A step of Euclid's keeps the greatest common divisor. -/
theorem gcd_step (b c q : Int) : Int.gcd c (b - q * c) = Int.gcd b c := by
  rw [Int.gcd_comm, Int.sub_eq_add_neg, ← Int.neg_mul, Int.gcd_add_mul_right_left]
end Cub

namespace Cub

/-- Steps of Euclid's on b0 and c0, told by what they make of the first digits x0 and y0. -/
structure LS (b0 c0 x0 y0 x y A B C D : Int) : Prop where
  ev : Ev x0 y0 x y A B C D ∨ Ev y0 x0 x y B A D C
  gcd : Int.gcd (A * b0 + B * c0) (C * b0 + D * c0) = Int.gcd b0 c0
  lo : 0 ≤ C * b0 + D * c0
  le : C * b0 + D * c0 ≤ A * b0 + B * c0
  now : (A = 1 ∧ B = 0 ∧ C = 0 ∧ D = 1) ∨ (A * b0 + B * c0 ≤ c0 ∧ C * b0 + D * c0 < c0)
  hx : x ≤ 1000000000000000000
  hy : y ≤ 1000000000000000000

theorem LS.start {b0 c0 x0 y0 : Int} (h1 : 0 ≤ c0) (h2 : c0 ≤ b0) (hx : 0 ≤ x0) (hy : 0 ≤ y0) (hx2 : x0 < 1000000000000000000) (hy2 : y0 < 1000000000000000000) : LS b0 c0 x0 y0 x0 y0 1 0 0 1 := by
  refine ⟨.inl (Ev.start x0 y0 hx hy), ?_, by omega, by omega, .inl ⟨rfl, rfl, rfl, rfl⟩, by omega, by omega⟩
  simp

theorem LS.bounds {b0 c0 x0 y0 x y A B C D : Int} (h : LS b0 c0 x0 y0 x y A B C D) :
    0 ≤ x + A ∧ 0 ≤ x + B ∧ 0 ≤ y + C ∧ 0 ≤ y + D ∧ (-1000000000 ≤ A ∧ A ≤ 1000000000) ∧ (-1000000000 ≤ B ∧ B ≤ 1000000000) ∧ (-1000000000 ≤ C ∧ C ≤ 1000000000) ∧ (-1000000000 ≤ D ∧ D ≤ 1000000000) ∧ 0 ≤ x ∧ 0 ≤ y ∧ ((0 ≤ A ∧ B ≤ 0) ∨ (A ≤ 0 ∧ 0 ≤ B)) ∧ ((0 ≤ C ∧ D ≤ 0) ∨ (C ≤ 0 ∧ 0 ≤ D)) := by
  rcases h.ev with h | h
  all_goals (
    have p1 := h.p1; have p2 := h.p2; have r1 := h.r1; have r2 := h.r2; have sA := h.sA; have sB := h.sB; have sC := h.sC; have sD := h.sD
    have bA := h.bA; have bB := h.bB; have bC := h.bC; have bD := h.bD
    omega)

theorem quo_facts {a b q : Int} (ha : 0 ≤ a) (hb : 0 ≤ b) (h0 : b ≠ 0) (hq : q = a / b) : 0 ≤ q ∧ q * b ≤ a ∧ a < q * b + b := by
  subst hq
  have h1 : 0 < b := by omega
  refine ⟨Int.ediv_nonneg ha hb, Int.ediv_mul_le a h0, ?_⟩
  have := Int.lt_ediv_add_one_mul_self a h1
  rw [Int.add_mul, Int.one_mul] at this
  exact this

theorem LS.step {b0 c0 x0 y0 x y A B C D q U P u v : Int} (h : LS b0 c0 x0 y0 x y A B C D) (e1 : y + C ≠ 0) (e2 : y + D ≠ 0) (hq1 : q = (x + A) / (y + C)) (hq2 : q = (x + B) / (y + D))
    (hx0 : x0 < 1000000000000000000) (hy0 : y0 < 1000000000000000000)
    (hb : b0 * U = x0 * P + u) (hc : c0 * U = y0 * P + v) (hu : 0 ≤ u) (hu2 : u ≤ P) (hv : 0 ≤ v) (hv2 : v ≤ P) (hP : 0 < P) (hU : 0 < U) :
    LS b0 c0 x0 y0 y (x - q * y) C D (A - q * C) (B - q * D) ∧ x - q * y < y ∧ 0 ≤ q := by
  obtain ⟨k1, k2, k3, k4, -, -, -, -, k5, k6, -, -⟩ := h.bounds
  obtain ⟨q0, f1, f2⟩ := quo_facts k1 k3 e1 hq1
  obtain ⟨-, g1, g2⟩ := quo_facts k2 k4 e2 hq2
  clear hq1 hq2
  have hN : (A - q * C) * b0 + (B - q * D) * c0 = (A * b0 + B * c0) - q * (C * b0 + D * c0) := by grind
  have E1 : q * (y + C) = q * y + q * C := Int.mul_add ..
  have E2 : q * (y + D) = q * y + q * D := Int.mul_add ..
  have hmain : (Ev x0 y0 y (x - q * y) C D (A - q * C) (B - q * D) ∨ Ev y0 x0 y (x - q * y) D C (B - q * D) (A - q * C)) ∧ (0 ≤ (A * b0 + B * c0) - q * (C * b0 + D * c0) ∧ (A * b0 + B * c0) - q * (C * b0 + D * c0) < C * b0 + D * c0) ∧ x - q * y < y := by
    rcases h.ev with h | h
    · refine ⟨.inr (h.step q0 f1 f2 g1 hx0 hy0), h.rest q0 f2 g1 hb hc hu hu2 hv hv2 hP hU, ?_⟩
      have sA := h.sA; have sC := h.sC
      have := Int.mul_nonpos_of_nonneg_of_nonpos q0 sC
      omega
    · refine ⟨.inl (h.step q0 g1 g2 f1 hy0 hx0), ?_, ?_⟩
      · have := h.rest q0 g2 f1 hc hb hv hv2 hu hu2 hP hU
        rw [Int.add_comm (B * c0), Int.add_comm (D * c0)] at this
        exact this
      · have sB := h.sA; have sD := h.sC
        have := Int.mul_nonpos_of_nonneg_of_nonpos q0 sD
        omega
  obtain ⟨m1, ⟨m2, m3⟩, m4⟩ := hmain
  refine ⟨⟨m1, ?_, by omega, by omega, .inr ?_, h.hy, by have := h.hy; omega⟩, m4, q0⟩
  · rw [hN, gcd_step]; exact h.gcd
  · rw [hN]
    rcases h.now with ⟨rfl, rfl, rfl, rfl⟩ | ⟨n1, n2⟩
    · omega
    · omega

/-- What stands behind the steps: sizes, and products that the machine works out. -/
theorem LS.products {b0 c0 x0 y0 x y A B C D q : Int} (h : LS b0 c0 x0 y0 x y A B C D) (h' : LS b0 c0 x0 y0 y (x - q * y) C D (A - q * C) (B - q * D)) (q0 : 0 ≤ q) :
    (-2000000000 ≤ q * C ∧ q * C ≤ 2000000000) ∧ (-2000000000 ≤ q * D ∧ q * D ≤ 2000000000) ∧ 0 ≤ q * y ∧ q * y ≤ 1000000000000000000 := by
  obtain ⟨-, -, -, -, a1, a2, a3, a4, k5, k6, -, -⟩ := h.bounds
  obtain ⟨-, -, -, -, b1, b2, b3, b4, l5, l6, -, -⟩ := h'.bounds
  have := Int.mul_nonneg q0 k6
  have := h.hx
  omega

/-- One row out of two: times one number and more times another. -/
structure TG (lb lc S : List Nat) (t m k : Int) (i : Nat) : Prop where
  len : S.length = lb.length
  limbs : limbs 1000000000 S
  eq : (lval 1000000000 (S.take i) : Int) + k * (1000000000 ^ i : Nat) = t * (lval 1000000000 (lb.take i) : Nat) + m * (lval 1000000000 (lc.take i) : Nat)
  k1 : -1000000000 ≤ k
  k2 : k ≤ 999999999

theorem TG.start (lb lc : List Nat) (t m : Int) : TG lb lc (List.replicate lb.length 0) t m 0 0 := by
  refine ⟨by simp, ?_, by simp [lval], by omega, by omega⟩
  intro x hx
  have := List.eq_of_mem_replicate hx
  omega

theorem opp_bound {t m x z : Int} (ht : -1000000000 ≤ t ∧ t ≤ 1000000000) (hm : -1000000000 ≤ m ∧ m ≤ 1000000000) (hs : (0 ≤ t ∧ m ≤ 0) ∨ (t ≤ 0 ∧ 0 ≤ m)) (hx : 0 ≤ x ∧ x ≤ 999999999) (hz : 0 ≤ z ∧ z ≤ 999999999) :
    -999999999000000000 ≤ t * x + m * z ∧ t * x + m * z ≤ 999999999000000000 ∧ (-999999999000000000 ≤ t * x ∧ t * x ≤ 999999999000000000) ∧ (-999999999000000000 ≤ m * z ∧ m * z ≤ 999999999000000000) := by
  have pos : ∀ {a b : Int}, 0 ≤ a → a ≤ 1000000000 → 0 ≤ b → b ≤ 999999999 → 0 ≤ a * b ∧ a * b ≤ 999999999000000000 := by
    intro a b h1 h2 h3 h4
    have := Int.mul_le_mul h2 h4 h3 (by omega)
    exact ⟨Int.mul_nonneg h1 h3, by omega⟩
  rcases hs with ⟨s1, s2⟩ | ⟨s1, s2⟩
  · have p := pos s1 ht.2 hx.1 hx.2
    have n := pos (a := -m) (b := z) (by omega) (by omega) hz.1 hz.2
    rw [Int.neg_mul] at n
    omega
  · have p := pos s2 hm.2 hz.1 hz.2
    have n := pos (a := -t) (b := x) (by omega) (by omega) hx.1 hx.2
    rw [Int.neg_mul] at n
    omega

theorem take_getD (l : List Nat) (i : Nat) : lval 1000000000 (l.take (i + 1)) = lval 1000000000 (l.take i) + 1000000000 ^ i * l.getD i 0 := by
  by_cases h : i < l.length
  · rw [take_val l i h]; simp [List.getD, h]
  · rw [take_val' l i (by omega)]; simp [List.getD, List.getElem?_eq_none (Nat.le_of_not_lt h)]

theorem TG.step {lb lc S : List Nat} {t m k s : Int} {i : Nat} (h : TG lb lc S t m k i) (hi : i < lb.length) (hs : s = k + 1000000000000000000 + t * (lb.getD i 0 : Nat) + m * (lc.getD i 0 : Nat))
    (s0 : 0 ≤ s) (s1 : s ≤ 1999999999999999999) : TG lb lc (S.set i (s % 1000000000).toNat) t m (s / 1000000000 - 1000000000) (i + 1) := by
  have hlen := h.len
  have hm0 : 0 ≤ s % 1000000000 := Int.emod_nonneg _ (by decide)
  have hm1 : s % 1000000000 < 1000000000 := Int.emod_lt_of_pos _ (by decide)
  refine ⟨by rw [List.length_set]; exact h.len, limbs_set h.limbs _ _ (by omega), ?_, by omega, by omega⟩
  have e1 : lval 1000000000 ((S.set i (s % 1000000000).toNat).take (i + 1)) = lval 1000000000 (S.take i) + 1000000000 ^ i * (s % 1000000000).toNat := by
    rw [take_val _ i (by rw [List.length_set]; omega)]
    rw [List.getElem_set_self, List.take_set_of_le (Nat.le_refl _)]
  rw [e1, take_getD lb i, take_getD lc i]
  have e := h.eq
  have ed : s = 1000000000 * (s / 1000000000) + s % 1000000000 := (Int.mul_ediv_add_emod s 1000000000).symm
  have e2 : (((s % 1000000000).toNat : Nat) : Int) = s % 1000000000 := Int.toNat_of_nonneg hm0
  generalize lb.getD i 0 = xb at *
  generalize lc.getD i 0 = xc at *
  generalize lval 1000000000 (S.take i) = vs at *
  generalize lval 1000000000 (lb.take i) = vb at *
  generalize lval 1000000000 (lc.take i) = vc at *
  rw [Nat.pow_succ]
  generalize (1000000000 : Nat) ^ i = p at *
  simp only [Int.natCast_add, Int.natCast_mul, e2, show ((1000000000 : Nat) : Int) = 1000000000 from rfl]
  generalize s / 1000000000 = d at *
  generalize s % 1000000000 = r at *
  have : (vs : Int) + p * r + (d - 1000000000) * (p * 1000000000) = (vs + k * p) + p * ((1000000000 * d + r) - k - 1000000000000000000) := by grind
  rw [this, ← ed, e, hs]
  grind

theorem TG.done {lb lc S : List Nat} {t m k : Int} {i : Nat} (h : TG lb lc S t m k i) (hi : i = lb.length) (hl : lc.length ≤ lb.length) (N : Nat)
    (hN : (N : Int) = t * (lval 1000000000 lb : Nat) + m * (lval 1000000000 lc : Nat)) (hle : N < 1000000000 ^ lb.length) : lval 1000000000 S = N := by
  subst hi
  have e := h.eq
  rw [List.take_of_length_le (by rw [h.len]; exact Nat.le_refl _), List.take_of_length_le (Nat.le_refl _), List.take_of_length_le hl, ← hN] at e
  have hS := lval_lt h.limbs
  rw [h.len] at hS
  generalize lval 1000000000 S = vs at *
  generalize (1000000000 : Nat) ^ lb.length = p at *
  have k0 : k = 0 := by
    rcases Int.lt_trichotomy k 0 with hk | hk | hk
    · have : k * (p : Int) ≤ -1 * (p : Int) := Int.mul_le_mul_of_nonneg_right (by omega) (by omega)
      omega
    · exact hk
    · have : 1 * (p : Int) ≤ k * (p : Int) := Int.mul_le_mul_of_nonneg_right (by omega) (by omega)
      omega
  rw [k0, Int.zero_mul] at e
  omega

/-- The first digits of a row of three limbs or more, the row moved up. -/
theorem first_digits (low : List Nat) (p q r up e : Nat) (hl : limbs 1000000000 low) (hue : up * e = 1000000000) :
    ∃ u, lval 1000000000 (low ++ [p, q, r]) * up = ((r * 1000000000 + q) * up + p / e) * 1000000000 ^ (low.length + 1) + u ∧ u < 1000000000 ^ (low.length + 1) := by
  have hv := lval_lt hl
  have he : 0 < e := by rcases Nat.eq_zero_or_pos e with h | h; · rw [h] at hue; omega
                        · exact h
  have hu : 0 < up := by rcases Nat.eq_zero_or_pos up with h | h; · rw [h] at hue; omega
                         · exact h
  refine ⟨up * (lval 1000000000 low + 1000000000 ^ low.length * (p % e)), ?_, ?_⟩
  · rw [lval_append]
    have e3 : lval 1000000000 [p, q, r] = p + 1000000000 * (q + 1000000000 * r) := by simp [lval]
    rw [e3, Nat.pow_succ]
    generalize lval 1000000000 low = v at *
    generalize (1000000000 : Nat) ^ low.length = b at *
    have hp := Nat.div_add_mod p e
    generalize p / e = d at *
    generalize p % e = m at *
    rw [← hp]
    have : (v + b * (e * d + m + 1000000000 * (q + 1000000000 * r))) * up = (r * 1000000000 + q) * up * (b * 1000000000) + (up * e) * (b * d) + up * (v + b * m) := by grind
    rw [this, hue]
    grind
  · have hm : p % e < e := Nat.mod_lt _ he
    rw [Nat.pow_succ]
    generalize lval 1000000000 low = v at *
    generalize (1000000000 : Nat) ^ low.length = b at *
    generalize p % e = m at *
    have h1 : v + b * m < b * e := by
      have : b * m + b ≤ b * e := by rw [← Nat.mul_succ]; exact Nat.mul_le_mul_left _ hm
      omega
    have h2 : up * (v + b * m) < up * (b * e) := Nat.mul_lt_mul_of_pos_left h1 hu
    have h3 : up * (b * e) = b * (up * e) := by grind
    rw [hue] at h3
    omega
end Cub
