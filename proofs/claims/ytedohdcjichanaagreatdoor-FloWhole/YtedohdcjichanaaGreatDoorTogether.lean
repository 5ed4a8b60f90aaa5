/- nat.together: times one number and more times another. -/
import Derived.Test.YtedohdcjichanaaGreatDoorOps
import Derived.BigQuiet
import Derived.Deep.Cut
import Derived.WalkSmall
import Derived.Test.YtedohdcjichanaaGreatDoorPow
import Derived.Test.YtedohdcjichanaaGreatDoorCmp
import Derived.Deep.RegionHeld3
import Derived.Test.YtedohdcjichanaaGreatDoorSt
import Derived.Laws.IdiomCopy
import Derived.OwnWalk
import Derived.WalkMore
import Derived.LoopN
namespace Go.Proofs.YtedohdcjichanaaGreatDoor
open Go.RowKit

/-- What the division and the greatest common divisor must answer. -/
def DivAns (k : Nat) : Prop := ∀ (W : World) (x y : Value) (m n : Nat), IsBig W x m → IsBig W y n → m < 1000000000 ^ k → 0 < n →
  Calls Tryz.prog 82 #[x, y] W fun e w' => ∃ a1 n1 c1 a2 n2 c2, e = .returned (.tuple #[.agg #[.slice a1 n1 c1], .agg #[.slice a2 n2 c2]]) ∧ IsBig w' (.agg #[.slice a1 n1 c1]) (m / n) ∧ IsBig w' (.agg #[.slice a2 n2 c2]) (m % n) ∧ Below W.heap.size W w'
def GcdAns (k : Nat) : Prop := ∀ (W : World) (x y : Value) (m n : Nat), IsBig W x m → IsBig W y n → m < 1000000000 ^ k → n < 1000000000 ^ k →
  Calls Tryz.prog 60 #[x, y] W fun e w' => ∃ a l c, e = .returned (.agg #[.slice a l c]) ∧ IsBig w' (.agg #[.slice a l c]) (Nat.gcd m n) ∧ Below W.heap.size W w'
/-- Two numbers in their boxes, and the boxes of the results. -/
structure LwSt (w W : World) (u v p q : Value) : Prop where
  b1 : Box W w.heap.size u
  b2 : Box W (w.heap.size + 1) v
  b3 : Box W (w.heap.size + 1 + 1) p
  b4 : Box W (w.heap.size + 1 + 1 + 1) q
  below : Below w.heap.size w W
theorem LwSt.later {w W V : World} {u v p q : Value} (s : LwSt w W u v p q) (hb : Below W.heap.size W V) : LwSt w V u v p q :=
  ⟨s.b1.later hb, s.b2.later hb, s.b3.later hb, s.b4.later hb, s.below.trans (hb.mono s.below.size)⟩
theorem LwSt.first (w : World) (u v p q : Value) : LwSt w ((((w.alloc (.cells #[u] 56)).alloc (.cells #[v] 56)).alloc (.cells #[p] 56)).alloc (.cells #[q] 56)) u v p q :=
  ⟨⟨by simp [go_sem], by simp [go_sem]⟩, ⟨by simp [go_sem], by simp [go_sem]⟩, ⟨by simp [go_sem], by simp [go_sem]⟩, ⟨by simp [go_sem], by simp [go_sem]⟩,
    ((((Below.refl _ _).alloc (Nat.le_refl _) _).alloc (by simp) _).alloc (by simp; omega) _).alloc (by simp; omega) _⟩
theorem LwSt.set1 {w W : World} {u v p q : Value} (s : LwSt w W u v p q) (x : Value) : LwSt w (W.setCell ⟨w.heap.size, 0, none⟩ x) x v p q :=
  ⟨s.b1.set x, s.b2.other (by omega) x, s.b3.other (by omega) x, s.b4.other (by omega) x, s.below.setCell (by simp) _⟩
theorem LwSt.set2 {w W : World} {u v p q : Value} (s : LwSt w W u v p q) (x : Value) : LwSt w (W.setCell ⟨w.heap.size + 1, 0, none⟩ x) u x p q :=
  ⟨s.b1.other (by omega) x, s.b2.set x, s.b3.other (by omega) x, s.b4.other (by omega) x, s.below.setCell (by simp) _⟩
theorem not_int (a : Option Addr) (l c : Nat) : ∀ k n, (Value.slice a l c) ≠ .int k n := fun _ _ e => by cases e

end Go.Proofs.YtedohdcjichanaaGreatDoor

namespace Cub

/-- In the one form: coprime, not over 0, no sign at 0. -/
structure Low (b : Bool) (n d : Nat) : Prop where
  pos : 0 < d
  cop : Nat.gcd n d = 1
  sign : b = true → n ≠ 0
/-- A size with its sign. -/
def sg (b : Bool) (n : Nat) : Int := if b then -(n : Int) else n
def valQ (b : Bool) (n d : Nat) : Rat := ((sg b n : Int) : Rat) / ((d : Nat) : Rat)
end Cub

namespace Go.Proofs.YtedohdcjichanaaGreatDoor
open Go.RowKit

/-- Two numbers in their boxes, and the box of the result. -/
structure A3St (w W : World) (u v p : Value) : Prop where
  b1 : Box W w.heap.size u
  b2 : Box W (w.heap.size + 1) v
  b3 : Box W (w.heap.size + 1 + 1) p
  below : Below w.heap.size w W
theorem A3St.later {w W V : World} {u v p : Value} (s : A3St w W u v p) (hb : Below W.heap.size W V) : A3St w V u v p :=
  ⟨s.b1.later hb, s.b2.later hb, s.b3.later hb, s.below.trans (hb.mono s.below.size)⟩
theorem A3St.first (w : World) (u v p : Value) : A3St w (((w.alloc (.cells #[u] 56)).alloc (.cells #[v] 56)).alloc (.cells #[p] 56)) u v p :=
  ⟨⟨by simp [go_sem], by simp [go_sem]⟩, ⟨by simp [go_sem], by simp [go_sem]⟩, ⟨by simp [go_sem], by simp [go_sem]⟩,
    (((Below.refl _ _).alloc (Nat.le_refl _) _).alloc (by simp) _).alloc (by simp; omega) _⟩
end Go.Proofs.YtedohdcjichanaaGreatDoor

namespace Go.Proofs.YtedohdcjichanaaGreatDoor
open Go.RowKit

/-- A Frac holds a sign and two numbers (its cells lie flat). -/
def IsFrac (w : World) (v : Value) (b : Bool) (n d : Nat) : Prop := ∃ s t, v = .agg #[.bool b, s, t] ∧ IsBig w (.agg #[s]) n ∧ IsBig w (.agg #[t]) d
theorem IsFrac.later {w w' : World} {v : Value} {b : Bool} {n d : Nat} (h : IsFrac w v b n d) (hb : Below w.heap.size w w') : IsFrac w' v b n d := by
  obtain ⟨s, t, rfl, h1, h2⟩ := h
  exact ⟨s, t, rfl, h1.later hb, h2.later hb⟩
theorem IsFrac.form {w : World} {v : Value} {b : Bool} {n d : Nat} (h : IsFrac w v b n d) : ∃ a1 l1 c1 a2 l2 c2, v = .agg #[.bool b, .slice a1 l1 c1, .slice a2 l2 c2] ∧ IsBig w (.agg #[.slice a1 l1 c1]) n ∧ IsBig w (.agg #[.slice a2 l2 c2]) d := by
  obtain ⟨s, t, rfl, h1, h2⟩ := h
  obtain ⟨a1, l1, c1, e1⟩ := h1.shape
  obtain ⟨a2, l2, c2, e2⟩ := h2.shape
  simp only [Value.agg.injEq, Array.mk.injEq, List.cons.injEq, and_true] at e1 e2
  subst e1 e2
  exact ⟨a1, l1, c1, a2, l2, c2, rfl, h1, h2⟩
end Go.Proofs.YtedohdcjichanaaGreatDoor

namespace Go.Proofs.YtedohdcjichanaaGreatDoor
open Go.RowKit

/-- A Frac's box: three cells. -/
structure FBox (W : World) (g : Nat) (x y z : Value) : Prop where
  c0 : W.cell? ⟨g, 0, none⟩ = some x
  c1 : W.cell? ⟨g, 1, none⟩ = some y
  c2 : W.cell? ⟨g, 2, none⟩ = some z
  f0 : W.frozen? ⟨g, 0, none⟩ = false
  f1 : W.frozen? ⟨g, 1, none⟩ = false
  f2 : W.frozen? ⟨g, 2, none⟩ = false
theorem FBox.lt {W : World} {g : Nat} {x y z : Value} (h : FBox W g x y z) : g < W.heap.size := World.block_lt_of_cell? _ _ h.c0
theorem FBox.later {W V : World} {g : Nat} {x y z : Value} (h : FBox W g x y z) (hb : Below W.heap.size W V) : FBox V g x y z :=
  ⟨(hb.cell (p := ⟨g, 0, none⟩) h.lt).trans h.c0, (hb.cell (p := ⟨g, 1, none⟩) h.lt).trans h.c1, (hb.cell (p := ⟨g, 2, none⟩) h.lt).trans h.c2,
    (hb.frozen (p := ⟨g, 0, none⟩) h.lt).trans h.f0, (hb.frozen (p := ⟨g, 1, none⟩) h.lt).trans h.f1, (hb.frozen (p := ⟨g, 2, none⟩) h.lt).trans h.f2⟩
/-- A whole Frac stored into its box. -/
def store3 (W : World) (g : Nat) (x y z : Value) : World := ((W.setCell ⟨g, 0, none⟩ x).setCell ⟨g, 1, none⟩ y).setCell ⟨g, 2, none⟩ z
theorem FBox.store {W : World} {g : Nat} {x y z : Value} (h : FBox W g x y z) (x' y' z' : Value) : FBox (store3 W g x' y' z') g x' y' z' := by
  have a1 : (W.setCell ⟨g, 0, none⟩ x').cell? ⟨g, 1, none⟩ = some y := by rw [World.cell?_setCell_other _ _ _ _ (by simp)]; exact h.c1
  have a2 : ((W.setCell ⟨g, 0, none⟩ x').setCell ⟨g, 1, none⟩ y').cell? ⟨g, 2, none⟩ = some z := by rw [World.cell?_setCell_other _ _ _ _ (by simp), World.cell?_setCell_other _ _ _ _ (by simp)]; exact h.c2
  unfold store3
  refine ⟨?_, ?_, World.cell?_setCell_same _ _ _ a2, ?_, ?_, ?_⟩
  · rw [World.cell?_setCell_other _ _ _ _ (by simp), World.cell?_setCell_other _ _ _ _ (by simp)]; exact World.cell?_setCell_same _ _ _ h.c0
  · rw [World.cell?_setCell_other _ _ _ _ (by simp)]; exact World.cell?_setCell_same _ _ _ a1
  · rw [World.frozen?_setCell, World.frozen?_setCell, World.frozen?_setCell]; exact h.f0
  · rw [World.frozen?_setCell, World.frozen?_setCell, World.frozen?_setCell]; exact h.f1
  · rw [World.frozen?_setCell, World.frozen?_setCell, World.frozen?_setCell]; exact h.f2
theorem FBox.big {W : World} {g : Nat} {b : Bool} {a1 a2 : Option Addr} {l1 c1 l2 c2 : Nat} (h : FBox W g (.bool b) (.slice a1 l1 c1) (.slice a2 l2 c2)) (x' y' z' : Value) {v : Value} {n : Nat} (hv : IsBig W v n) : IsBig (store3 W g x' y' z') v n := by
  have e1 : (W.setCell ⟨g, 0, none⟩ x').cell? ⟨g, 1, none⟩ = some (.slice a1 l1 c1) := by rw [World.cell?_setCell_other _ _ _ _ (by simp)]; exact h.c1
  have e2 : ((W.setCell ⟨g, 0, none⟩ x').setCell ⟨g, 1, none⟩ y').cell? ⟨g, 2, none⟩ = some (.slice a2 l2 c2) := by rw [World.cell?_setCell_other _ _ _ _ (by simp), World.cell?_setCell_other _ _ _ _ (by simp)]; exact h.c2
  exact ((hv.box _ h.c0 (fun _ _ e => by cases e)).box _ e1 (not_int _ _ _)).box _ e2 (not_int _ _ _)
theorem below_store3 {B g : Nat} {w W : World} (h : Below B w W) (hg : B ≤ g) (x y z : Value) : Below B w (store3 W g x y z) :=
  ((h.setCell (p := ⟨g, 0, none⟩) hg x).setCell (p := ⟨g, 1, none⟩) hg y).setCell (p := ⟨g, 2, none⟩) hg z

end Go.Proofs.YtedohdcjichanaaGreatDoor

namespace Go.Proofs.YtedohdcjichanaaGreatDoor
open Go.RowKit

theorem FBox.other {W : World} {g k : Nat} {x y z : Value} (h : FBox W g x y z) (hk : g ≠ k) (u : Value) : FBox (W.setCell ⟨k, 0, none⟩ u) g x y z :=
  ⟨by rw [World.cell?_setCell_other _ _ _ _ (by intro e; cases e; exact hk rfl)]; exact h.c0, by rw [World.cell?_setCell_other _ _ _ _ (by intro e; cases e)]; exact h.c1, by rw [World.cell?_setCell_other _ _ _ _ (by intro e; cases e)]; exact h.c2,
    by rw [World.frozen?_setCell]; exact h.f0, by rw [World.frozen?_setCell]; exact h.f1, by rw [World.frozen?_setCell]; exact h.f2⟩
/-- Two numbers in their boxes, and a Frac's box. -/
structure RSt (w W : World) (u v : Value) : Prop where
  b1 : Box W w.heap.size u
  b2 : Box W (w.heap.size + 1) v
  b3 : FBox W (w.heap.size + 1 + 1) (.bool false) (.slice none 0 0) (.slice none 0 0)
  below : Below w.heap.size w W
theorem RSt.later {w W V : World} {u v : Value} (s : RSt w W u v) (hb : Below W.heap.size W V) : RSt w V u v :=
  ⟨s.b1.later hb, s.b2.later hb, s.b3.later hb, s.below.trans (hb.mono s.below.size)⟩
theorem RSt.first (w : World) (u v : Value) : RSt w (((w.alloc (.cells #[u] 56)).alloc (.cells #[v] 56)).alloc (.cells #[.bool false, .slice none 0 0, .slice none 0 0] 67)) u v :=
  ⟨⟨by simp [go_sem], by simp [go_sem]⟩, ⟨by simp [go_sem], by simp [go_sem]⟩, ⟨by simp [go_sem], by simp [go_sem], by simp [go_sem], by simp [go_sem], by simp [go_sem], by simp [go_sem]⟩,
    (((Below.refl _ _).alloc (Nat.le_refl _) _).alloc (by simp) _).alloc (by simp; omega) _⟩
theorem RSt.both {w W : World} {u v : Value} (s : RSt w W u v) (x y : Value) : RSt w ((W.setCell ⟨w.heap.size, 0, none⟩ x).setCell ⟨w.heap.size + 1, 0, none⟩ y) x y :=
  ⟨(s.b1.set x).other (by omega) y, (s.b2.other (by omega) x).set y, (s.b3.other (by omega) x).other (by omega) y, (s.below.setCell (by simp) _).setCell (by simp) _⟩

end Go.Proofs.YtedohdcjichanaaGreatDoor

namespace Go.Proofs.YtedohdcjichanaaGreatDoor
open Go.RowKit

/-- Two Fracs in their boxes. -/
structure F2 (w W : World) (x0 x1 x2 y0 y1 y2 : Value) : Prop where
  x : FBox W w.heap.size x0 x1 x2
  y : FBox W (w.heap.size + 1) y0 y1 y2
  below : Below w.heap.size w W
theorem F2.later {w W V : World} {x0 x1 x2 y0 y1 y2 : Value} (s : F2 w W x0 x1 x2 y0 y1 y2) (hb : Below W.heap.size W V) : F2 w V x0 x1 x2 y0 y1 y2 :=
  ⟨s.x.later hb, s.y.later hb, s.below.trans (hb.mono s.below.size)⟩
theorem F2.first (w : World) (x0 x1 x2 y0 y1 y2 : Value) : F2 w ((w.alloc (.cells #[x0, x1, x2] 67)).alloc (.cells #[y0, y1, y2] 67)) x0 x1 x2 y0 y1 y2 :=
  ⟨⟨by simp [go_sem], by simp [go_sem], by simp [go_sem], by simp [go_sem], by simp [go_sem], by simp [go_sem]⟩, ⟨by simp [go_sem], by simp [go_sem], by simp [go_sem], by simp [go_sem], by simp [go_sem], by simp [go_sem]⟩,
    ((Below.refl _ _).alloc (Nat.le_refl _) _).alloc (by simp) _⟩
end Go.Proofs.YtedohdcjichanaaGreatDoor

namespace Go.Proofs.YtedohdcjichanaaGreatDoor
open Go.RowKit

theorem Box.new (W : World) (v : Value) : Box (W.alloc (.cells #[v] 56)) W.heap.size v := ⟨by simp [go_sem], by simp [go_sem]⟩
/-- Two Fracs, a Frac's box for the result, and boxes of one cell besides. -/
structure AS (w W : World) (x0 x1 x2 y0 y1 y2 : Value) (L : List (Nat × Value)) : Prop where
  x : FBox W w.heap.size x0 x1 x2
  y : FBox W (w.heap.size + 1) y0 y1 y2
  r : FBox W (w.heap.size + 1 + 1) (.bool false) (.slice none 0 0) (.slice none 0 0)
  bx : ∀ p ∈ L, Box W p.1 p.2
  gt : ∀ p ∈ L, w.heap.size + 1 + 1 < p.1
  below : Below w.heap.size w W
theorem AS.later {w W V : World} {x0 x1 x2 y0 y1 y2 : Value} {L : List (Nat × Value)} (s : AS w W x0 x1 x2 y0 y1 y2 L) (hb : Below W.heap.size W V) : AS w V x0 x1 x2 y0 y1 y2 L :=
  ⟨s.x.later hb, s.y.later hb, s.r.later hb, fun p hp => (s.bx p hp).later hb, s.gt, s.below.trans (hb.mono s.below.size)⟩
theorem AS.first (w : World) (x0 x1 x2 y0 y1 y2 : Value) : AS w (((w.alloc (.cells #[x0, x1, x2] 67)).alloc (.cells #[y0, y1, y2] 67)).alloc (.cells #[.bool false, .slice none 0 0, .slice none 0 0] 67)) x0 x1 x2 y0 y1 y2 [] :=
  ⟨⟨by simp [go_sem], by simp [go_sem], by simp [go_sem], by simp [go_sem], by simp [go_sem], by simp [go_sem]⟩, ⟨by simp [go_sem], by simp [go_sem], by simp [go_sem], by simp [go_sem], by simp [go_sem], by simp [go_sem]⟩,
    ⟨by simp [go_sem], by simp [go_sem], by simp [go_sem], by simp [go_sem], by simp [go_sem], by simp [go_sem]⟩, (fun _ h => by cases h), (fun _ h => by cases h),
    (((Below.refl _ _).alloc (Nat.le_refl _) _).alloc (by simp) _).alloc (by simp; omega) _⟩
theorem AS.push {w W : World} {x0 x1 x2 y0 y1 y2 : Value} {L : List (Nat × Value)} (s : AS w W x0 x1 x2 y0 y1 y2 L) (v : Value) : AS w (W.alloc (.cells #[v] 56)) x0 x1 x2 y0 y1 y2 ((W.heap.size, v) :: L) := by
  have t := s.later ((Below.refl W.heap.size W).alloc (Nat.le_refl _) (.cells #[v] 56))
  refine ⟨t.x, t.y, t.r, ?_, ?_, t.below⟩
  · intro p hp
    rcases List.mem_cons.1 hp with rfl | hp
    · exact ⟨by simp [go_sem], by simp [go_sem]⟩
    · exact t.bx p hp
  · intro p hp
    rcases List.mem_cons.1 hp with rfl | hp
    · exact s.r.lt
    · exact t.gt p hp
theorem AS.sub {w W : World} {x0 x1 x2 y0 y1 y2 : Value} {L M : List (Nat × Value)} (s : AS w W x0 x1 x2 y0 y1 y2 L) (h : ∀ p ∈ M, p ∈ L) : AS w W x0 x1 x2 y0 y1 y2 M :=
  ⟨s.x, s.y, s.r, fun p hp => s.bx p (h p hp), fun p hp => s.gt p (h p hp), s.below⟩
theorem AS.add {w W : World} {x0 x1 x2 y0 y1 y2 v : Value} {g : Nat} {L : List (Nat × Value)} (s : AS w W x0 x1 x2 y0 y1 y2 L) (hb : Box W g v) (hg : w.heap.size + 1 + 1 < g) : AS w W x0 x1 x2 y0 y1 y2 ((g, v) :: L) := by
  refine ⟨s.x, s.y, s.r, ?_, ?_, s.below⟩
  · intro p hp
    rcases List.mem_cons.1 hp with rfl | hp
    · exact hb
    · exact s.bx p hp
  · intro p hp
    rcases List.mem_cons.1 hp with rfl | hp
    · exact hg
    · exact s.gt p hp
theorem AS.set {w W : World} {x0 x1 x2 y0 y1 y2 v : Value} {g : Nat} {L : List (Nat × Value)} (s : AS w W x0 x1 x2 y0 y1 y2 ((g, v) :: L)) (h : ∀ p ∈ L, p.1 ≠ g) (u : Value) : AS w (W.setCell ⟨g, 0, none⟩ u) x0 x1 x2 y0 y1 y2 ((g, u) :: L) := by
  have hg : w.heap.size + 1 + 1 < g := s.gt (g, v) (by simp)
  refine ⟨s.x.other (by omega) u, s.y.other (by omega) u, s.r.other (by omega) u, ?_, ?_, s.below.setCell (by show w.heap.size ≤ g; omega) _⟩
  · intro p hp
    rcases List.mem_cons.1 hp with rfl | hp
    · exact (s.bx (g, v) (by simp)).set u
    · exact (s.bx p (by simp [hp])).other (h p hp) u
  · intro p hp
    rcases List.mem_cons.1 hp with rfl | hp
    · exact hg
    · exact s.gt p (by simp [hp])

end Go.Proofs.YtedohdcjichanaaGreatDoor

namespace Go.Proofs.YtedohdcjichanaaGreatDoor
open Go.RowKit

/-- Two Fracs side by side: six cells. -/
structure Six (W : World) (g : Nat) (x0 x1 x2 x3 x4 x5 : Value) : Prop where
  c0 : W.cell? ⟨g, 0, none⟩ = some x0
  c1 : W.cell? ⟨g, 1, none⟩ = some x1
  c2 : W.cell? ⟨g, 2, none⟩ = some x2
  c3 : W.cell? ⟨g, 3, none⟩ = some x3
  c4 : W.cell? ⟨g, 4, none⟩ = some x4
  c5 : W.cell? ⟨g, 5, none⟩ = some x5
  f : ∀ k, W.frozen? ⟨g, k, none⟩ = false
theorem Six.lt {W : World} {g : Nat} {x0 x1 x2 x3 x4 x5 : Value} (h : Six W g x0 x1 x2 x3 x4 x5) : g < W.heap.size := World.block_lt_of_cell? _ _ h.c0
theorem Six.later {W V : World} {g : Nat} {x0 x1 x2 x3 x4 x5 : Value} (h : Six W g x0 x1 x2 x3 x4 x5) (hb : Below W.heap.size W V) : Six V g x0 x1 x2 x3 x4 x5 :=
  ⟨(hb.cell (p := ⟨g, 0, none⟩) h.lt).trans h.c0, (hb.cell (p := ⟨g, 1, none⟩) h.lt).trans h.c1, (hb.cell (p := ⟨g, 2, none⟩) h.lt).trans h.c2, (hb.cell (p := ⟨g, 3, none⟩) h.lt).trans h.c3,
    (hb.cell (p := ⟨g, 4, none⟩) h.lt).trans h.c4, (hb.cell (p := ⟨g, 5, none⟩) h.lt).trans h.c5, fun k => (hb.frozen (p := ⟨g, k, none⟩) h.lt).trans (h.f k)⟩
/-- The parts of a product, and the box of the result. -/
structure TM (w W : World) (b c : Bool) (s1 s2 s3 s4 : Value) : Prop where
  six : Six W (w.heap.size + 1) (.bool b) s1 s2 (.bool c) s3 s4
  r : FBox W w.heap.size (.bool false) (.slice none 0 0) (.slice none 0 0)
  below : Below w.heap.size w W
theorem TM.later {w W V : World} {b c : Bool} {s1 s2 s3 s4 : Value} (s : TM w W b c s1 s2 s3 s4) (hb : Below W.heap.size W V) : TM w V b c s1 s2 s3 s4 :=
  ⟨s.six.later hb, s.r.later hb, s.below.trans (hb.mono s.below.size)⟩
theorem FBox.otherAt {W : World} {g k o : Nat} {x y z : Value} (h : FBox W g x y z) (hk : g ≠ k) (u : Value) : FBox (W.setCell ⟨k, o, none⟩ u) g x y z :=
  ⟨by rw [World.cell?_setCell_other _ _ _ _ (by intro e; exact hk (congrArg Addr.block e).symm)]; exact h.c0, by rw [World.cell?_setCell_other _ _ _ _ (by intro e; exact hk (congrArg Addr.block e).symm)]; exact h.c1, by rw [World.cell?_setCell_other _ _ _ _ (by intro e; exact hk (congrArg Addr.block e).symm)]; exact h.c2,
    by rw [World.frozen?_setCell]; exact h.f0, by rw [World.frozen?_setCell]; exact h.f1, by rw [World.frozen?_setCell]; exact h.f2⟩
theorem TM.first (w : World) (b c : Bool) (s1 s2 s3 s4 : Value) : TM w ((w.alloc (.cells #[.bool false, .slice none 0 0, .slice none 0 0] 67)).alloc (.cells #[.bool b, s1, s2, .bool c, s3, s4] 67)) b c s1 s2 s3 s4 :=
  ⟨⟨by simp [go_sem], by simp [go_sem], by simp [go_sem], by simp [go_sem], by simp [go_sem], by simp [go_sem], fun k => by simp [go_sem]⟩, ⟨by simp [go_sem], by simp [go_sem], by simp [go_sem], by simp [go_sem], by simp [go_sem], by simp [go_sem]⟩,
    ((Below.refl _ _).alloc (Nat.le_refl _) _).alloc (by simp) _⟩

theorem FBox.set1 {W : World} {g : Nat} {x y z : Value} (h : FBox W g x y z) (u : Value) : FBox (W.setCell ⟨g, 1, none⟩ u) g x u z :=
  ⟨by rw [World.cell?_setCell_other _ _ _ _ (by simp)]; exact h.c0, World.cell?_setCell_same _ _ _ h.c1, by rw [World.cell?_setCell_other _ _ _ _ (by simp)]; exact h.c2,
    by rw [World.frozen?_setCell]; exact h.f0, by rw [World.frozen?_setCell]; exact h.f1, by rw [World.frozen?_setCell]; exact h.f2⟩
theorem FBox.set2 {W : World} {g : Nat} {x y z : Value} (h : FBox W g x y z) (u : Value) : FBox (W.setCell ⟨g, 2, none⟩ u) g x y u :=
  ⟨by rw [World.cell?_setCell_other _ _ _ _ (by simp)]; exact h.c0, by rw [World.cell?_setCell_other _ _ _ _ (by simp)]; exact h.c1, World.cell?_setCell_same _ _ _ h.c2,
    by rw [World.frozen?_setCell]; exact h.f0, by rw [World.frozen?_setCell]; exact h.f1, by rw [World.frozen?_setCell]; exact h.f2⟩
theorem FBox.new (W : World) (x y z : Value) : FBox (W.alloc (.cells #[x, y, z] 67)) W.heap.size x y z :=
  ⟨by simp [go_sem], by simp [go_sem], by simp [go_sem], by simp [go_sem], by simp [go_sem], by simp [go_sem]⟩
theorem TM.other {w W : World} {b c : Bool} {s1 s2 s3 s4 : Value} (s : TM w W b c s1 s2 s3 s4) (g o : Nat) (hg : w.heap.size + 1 < g) (u : Value) : TM w (W.setCell ⟨g, o, none⟩ u) b c s1 s2 s3 s4 := by
  have k : ∀ i, (W.setCell ⟨g, o, none⟩ u).cell? ⟨w.heap.size + 1, i, none⟩ = W.cell? ⟨w.heap.size + 1, i, none⟩ := fun i => World.cell?_setCell_other _ _ _ _ (by intro e; have := congrArg Addr.block e; simp at this; omega)
  exact ⟨⟨(k 0).trans s.six.c0, (k 1).trans s.six.c1, (k 2).trans s.six.c2, (k 3).trans s.six.c3, (k 4).trans s.six.c4, (k 5).trans s.six.c5, fun i => by rw [World.frozen?_setCell]; exact s.six.f i⟩, s.r.otherAt (by omega) u, s.below.setCell (p := ⟨g, o, none⟩) (by show w.heap.size ≤ g; omega) _⟩
/-- The parts and the product so far. -/
structure QS (w W : World) (g : Nat) (b c : Bool) (s1 s2 s3 s4 : Value) (bb : Bool) (p q : Value) (N D M E P Q : Nat) : Prop where
  tm : TM w W b c s1 s2 s3 s4
  gt : w.heap.size + 1 < g
  fb : FBox W g (.bool bb) p q
  i1 : IsBig W (.agg #[s1]) N
  i2 : IsBig W (.agg #[s2]) D
  i3 : IsBig W (.agg #[s3]) M
  i4 : IsBig W (.agg #[s4]) E
  ip : IsBig W (.agg #[p]) P
  iq : IsBig W (.agg #[q]) Q
theorem QS.later {w W V : World} {g : Nat} {b c : Bool} {s1 s2 s3 s4 : Value} {bb : Bool} {p q : Value} {N D M E P Q : Nat} (s : QS w W g b c s1 s2 s3 s4 bb p q N D M E P Q) (hb : Below W.heap.size W V) : QS w V g b c s1 s2 s3 s4 bb p q N D M E P Q :=
  ⟨s.tm.later hb, s.gt, s.fb.later hb, s.i1.later hb, s.i2.later hb, s.i3.later hb, s.i4.later hb, s.ip.later hb, s.iq.later hb⟩
theorem QS.set1 {w W : World} {g : Nat} {b c : Bool} {s1 s2 s3 s4 : Value} {bb : Bool} {a : Option Addr} {l k : Nat} {q : Value} {N D M E P Q : Nat} (s : QS w W g b c s1 s2 s3 s4 bb (.slice a l k) q N D M E P Q) {u : Value} {P' : Nat} (hu : IsBig W (.agg #[u]) P') : QS w (W.setCell ⟨g, 1, none⟩ u) g b c s1 s2 s3 s4 bb u q N D M E P' Q :=
  ⟨s.tm.other g 1 s.gt _, s.gt, s.fb.set1 _, s.i1.box _ s.fb.c1 (not_int _ _ _), s.i2.box _ s.fb.c1 (not_int _ _ _), s.i3.box _ s.fb.c1 (not_int _ _ _), s.i4.box _ s.fb.c1 (not_int _ _ _), hu.box _ s.fb.c1 (not_int _ _ _), s.iq.box _ s.fb.c1 (not_int _ _ _)⟩
theorem QS.set2 {w W : World} {g : Nat} {b c : Bool} {s1 s2 s3 s4 : Value} {bb : Bool} {a : Option Addr} {l k : Nat} {p : Value} {N D M E P Q : Nat} (s : QS w W g b c s1 s2 s3 s4 bb p (.slice a l k) N D M E P Q) {u : Value} {Q' : Nat} (hu : IsBig W (.agg #[u]) Q') : QS w (W.setCell ⟨g, 2, none⟩ u) g b c s1 s2 s3 s4 bb p u N D M E P Q' :=
  ⟨s.tm.other g 2 s.gt _, s.gt, s.fb.set2 _, s.i1.box _ s.fb.c2 (not_int _ _ _), s.i2.box _ s.fb.c2 (not_int _ _ _), s.i3.box _ s.fb.c2 (not_int _ _ _), s.i4.box _ s.fb.c2 (not_int _ _ _), s.ip.box _ s.fb.c2 (not_int _ _ _), hu.box _ s.fb.c2 (not_int _ _ _)⟩
end Go.Proofs.YtedohdcjichanaaGreatDoor

namespace Go.Proofs.YtedohdcjichanaaGreatDoor
open Go.RowKit

set_option maxRecDepth 100000 in
set_option maxHeartbeats 1000000 in
theorem first_any (ap : Option Addr) (l : List Nat) (cap t up x2 x1 x0 h e f : Nat) (w : World) (hr : Row w (.slice ap l.length cap) l) (e2 : l.getD (t + 2) 0 = x2) (e1 : l.getD (t + 1) 0 = x1) (e0 : l.getD t 0 = x0) (ht : t ≤ 1000000)
    (b2 : x2 < 1000000000) (b1 : x1 < 1000000000) (b0 : x0 < 1000000000) (hh : h = x2 * 1000000000 + x1) (hu : 1 ≤ up) (hu2 : up ≤ 1000000000) (he : e = 1000000000 / up) (hf : f = h * up + x0 / e) (hb : h * up < 1000000000000000000) :
    Calls Tryz.prog 108 #[.agg #[.slice ap l.length cap], .int .i64 ((t + 2 : Nat) : Int), .int .u64 (up : Int)] w fun e w' => e = .returned (.int .u64 (f : Int)) ∧ Below w.heap.size w w' := by
  have HX2 : Hid (∀ W : World, Below w.heap.size w W → Calls Tryz.prog 123 #[.agg #[.slice ap l.length cap], .int .i64 ((t + 2 : Nat) : Int)] W fun e w' => e = .returned (.int .u64 (x2 : Int)) ∧ Below W.heap.size W w') := fun W hW => by
    have := limb_any ap l cap (t + 2) W (hr.later hW); rw [e2] at this; exact this
  have HX1 : Hid (∀ W : World, Below w.heap.size w W → Calls Tryz.prog 123 #[.agg #[.slice ap l.length cap], .int .i64 ((t : Int) + 2 - 1)] W fun e w' => e = .returned (.int .u64 (x1 : Int)) ∧ Below W.heap.size W w') := fun W hW => by
    have := limb_any ap l cap (t + 1) W (hr.later hW); rw [e1, show ((t + 1 : Nat) : Int) = (t : Int) + 2 - 1 by omega] at this; exact this
  have HX0 : Hid (∀ W : World, Below w.heap.size w W → Calls Tryz.prog 123 #[.agg #[.slice ap l.length cap], .int .i64 (t : Int)] W fun e w' => e = .returned (.int .u64 (x0 : Int)) ∧ Below W.heap.size W w') := fun W hW => by
    have := limb_any ap l cap t W (hr.later hW); rw [e0] at this; exact this
  generalize l.length = n at *
  clear e2 e1 e0 hr
  have HHI : Hid ((x2 : Int) * 1000000000 + (x1 : Int) = (h : Int)) := by show _ = _; omega
  have hB : h < 1000000000000000000 := by omega
  have hup0 : ¬ up = 0 := by omega
  have he1 : 1 ≤ e := by rw [he]; exact (Nat.le_div_iff_mul_le (by omega)).2 (by omega)
  have he2 : e ≤ 1000000000 := by rw [he]; exact Nat.div_le_self _ _
  have he0 : ¬ e = 0 := by omega
  have hE : (1000000000 : Int) / (up : Int) = (e : Int) := by rw [he]; exact (Int.natCast_ediv 1000000000 up).symm
  have hxe : x0 / e ≤ x0 := Nat.div_le_self _ _
  have HF : Hid (IntKind.u64.wrap ((h : Int) * (up : Int) + IntKind.u64.wrap ((x0 : Int) / (e : Int))) = (f : Int)) := by
    show _ = _
    rw [← Int.natCast_ediv, ← Int.natCast_mul, IntKind.wrap_u64, IntKind.wrap_u64]
    generalize x0 / e = q at *
    generalize h * up = g at *
    omega
  clear he hf
  go_enter Tryz.func108, Tryz.ntmps108
  go_upto_region 1 with fail
  obtain ⟨W, hW⟩ : ∃ W, W = w.alloc (.cells #[.slice ap n cap] 56) := ⟨_, rfl⟩
  have HW : Hid (Below w.heap.size w W) := by rw [hW]; exact (Below.refl _ _).alloc (Nat.le_refl _) _
  have hsz : W.heap.size = w.heap.size + 1 := by rw [hW]; simp
  have hc : ∀ x : Later W, x.world.cell? ⟨w.heap.size, 0, none⟩ = some (.slice ap n cap) := fun x => by
    rw [x.below.cell (p := ⟨w.heap.size, 0, none⟩) (by rw [hsz]; exact Nat.lt_succ_self _), hW]; simp [go_sem]
  rw [← hW]
  clear hW hh
  refine quiet_later (by kernel_rfl) (by kernel_rfl) ?_
  iterate 4 (go_big_quiet_step ((rename_i xx; refine (unhide HX2 _ ((unhide HW).trans (xx.below.mono (unhide HW).size))).mono ?_; rintro e w9 ⟨rfl, hb9⟩; have hz := xx.below.trans (hb9.mono xx.below.size); first | exact ⟨rfl, ⟨w9, hz⟩, rfl⟩ | exact ⟨rfl, hz⟩ | exact ⟨rfl, w9, hz, rfl⟩)))
  repeat (go_big_quiet_step ((rename_i xx; refine (unhide HX1 _ ((unhide HW).trans (xx.below.mono (unhide HW).size))).mono ?_; rintro e w9 ⟨rfl, hb9⟩; have hz := xx.below.trans (hb9.mono xx.below.size); first | exact ⟨rfl, ⟨w9, hz⟩, rfl⟩ | exact ⟨rfl, hz⟩ | exact ⟨rfl, w9, hz, rfl⟩)))
  refine wpQuiet_nil ?_
  intro _ hw'
  obtain ⟨xz, hw''⟩ := hw'
  subst hw''
  rw [unhide HHI]
  obtain ⟨W2, hW2⟩ : ∃ W2, W2 = xz.world := ⟨_, rfl⟩
  have HW2 : Hid (Below W.heap.size W W2) := by rw [hW2]; exact xz.below
  have hc2 : ∀ x : Later W2, x.world.cell? ⟨w.heap.size, 0, none⟩ = some (.slice ap n cap) := fun x =>
    hc ⟨x.world, (unhide HW2).trans (x.below.mono (unhide HW2).size)⟩
  rw [← hW2]
  clear hW2 hc
  go_upto_region 2 with fail
  refine quiet_later (by kernel_rfl) (by kernel_rfl) ?_
  repeat (go_big_quiet_step ((rename_i xx; refine (unhide HX0 _ ((unhide HW).trans (((unhide HW2).trans (xx.below.mono (unhide HW2).size)).mono (unhide HW).size))).mono ?_; rintro e w9 ⟨rfl, hb9⟩; have hz := xx.below.trans (hb9.mono xx.below.size); first | exact ⟨rfl, ⟨w9, hz⟩, rfl⟩ | exact ⟨rfl, hz⟩ | exact ⟨rfl, w9, hz, rfl⟩)))
  refine wpQuiet_nil ?_
  intro _ hw'
  obtain ⟨xy, hw''⟩ := hw'
  subst hw''
  rw [unhide HF]
  go_wp2_with fail
  go_ret
  exact ⟨rfl, (unhide HW).trans (((unhide HW2).trans (xy.below.mono (unhide HW2).size)).mono (unhide HW).size)⟩
end Go.Proofs.YtedohdcjichanaaGreatDoor

namespace Go.Proofs.YtedohdcjichanaaGreatDoor
open Go.RowKit

theorem OutU.on {w wr W : World} {a b : Value} {N : Nat} {O : List Nat} (h : OutU w wr a b N O) (hb : Below wr.heap.size wr W) : OutU w W a b N O :=
  ⟨h.own.later hb h.own.lt, h.len, h.box.on (hb.mono h.box.size)⟩

set_option maxRecDepth 100000 in
set_option maxHeartbeats 2000000 in
theorem together_any (x y : Value) (b c N k : Nat) (t m : Int) (w : World) (hx : IsBig w x b) (hy : IsBig w y c) (hcb : c ≤ b) (hk : k ≤ 1000000) (hbk : b < 1000000000 ^ k)
    (ht : -1000000000 ≤ t ∧ t ≤ 1000000000) (hm : -1000000000 ≤ m ∧ m ≤ 1000000000) (hs : (0 ≤ t ∧ m ≤ 0) ∨ (t ≤ 0 ∧ 0 ≤ m)) (hN : (N : Int) = t * (b : Int) + m * (c : Int)) (hNb : N ≤ b) :
    Calls Tryz.prog 109 #[x, y, .int .i64 t, .int .i64 m] w fun e w' => ∃ a n c, e = .returned (.agg #[.slice a n c]) ∧ IsBig w' (.agg #[.slice a n c]) N ∧ Below w.heap.size w w' := by
  obtain ⟨ap, lp, cp, rfl, hlp, hrp, hnp, rfl⟩ := hx.form
  obtain ⟨aq, lq, cq, rfl, hlq, hrq, hnq, rfl⟩ := hy.form
  have h1 := Cub.len_le hnp hbk
  have hvp := Cub.lval_lt hnp.1
  have h2 : lq.length ≤ lp.length := Cub.len_le hnq (by omega)
  have HP : Hid (Cub.limbs 1000000000 lp ∧ Cells w ap lp) := ⟨hnp.1, hrp.cells.2.2.2⟩
  have HQ : Hid (Cub.limbs 1000000000 lq ∧ Row w (.slice aq lq.length cq) lq) := ⟨hnq.1, hrq⟩
  have HN : Hid (∀ S k', Cub.TG lp lq S t m k' lp.length → Cub.lval 1000000000 S = N) := fun S k' h => h.done rfl h2 N hN (by omega)
  have HS := hide hs
  obtain ⟨np, hnp'⟩ : ∃ np, np = lp.length := ⟨_, rfl⟩
  rw [← hnp'] at h1 ⊢
  have HNP := hide hnp'
  have HT0 : Hid (Cub.TG lp lq (List.replicate np 0) t m 0 0) := by rw [hnp']; exact Cub.TG.start lp lq t m
  generalize hnq' : lq.length = nq at *
  have HNQ := hide hnq'
  clear hx hy hbk hlp hlq hrp hrq hnp hnq hnp' hnq' hN hNb hvp hcb hs h2
  obtain ⟨i0, hi, hz0, hz1, hz2⟩ := info_parts Tryz.info39
  obtain ⟨t1, t2⟩ := ht
  obtain ⟨m1, m2⟩ := hm
  go_enter Tryz.func109, Tryz.ntmps109
  go_wp2_with (first
    | (at_make; go_must (refine wpList_make_full _ rfl _ _ 54 rfl (w.heap.size + 3) 39 i0 (.int .u64 0) 1 Tryz.underlying54 hi hz0 hz1 .i64 .i64 _ _ np rfl rfl (by omega) (by omega) (by rw [hz2]; omega) (by unfold maxLen; omega) (by simp) ?_; intro w4 hown4 hgrow4; rw [u64s_made] at hown4; have hO4 : Own w4 (w.heap.size + 1 + 1 + 1) (List.replicate np 0) := (by have := Own.of_row hown4; simpa using this); have hB4 := boxes3 ((Below.refl (w.heap.size + 3) _).grown hgrow4 (by simp) (fun k hk => by cases hk)); have HO4 : Hid (OutU w w4 (.slice ap np cp) (.slice aq nq cq) np (List.replicate np 0)) := ⟨hO4, List.length_replicate .., hB4⟩; clear hown4 hgrow4 hO4 hB4)))
  go_loopw [10, 18] (fun u v wr => ∃ (k : Int) (i : Nat) (O : List Nat), u = .int .i64 k ∧ v = .int .i64 (i : Int) ∧ i ≤ np ∧ -1000000000 ≤ k ∧ k ≤ 999999999 ∧ Hid (OutU w wr (.slice ap np cp) (.slice aq nq cq) np O) ∧ Hid (Cub.TG lp lq O t m k i)) (fun _ v _ => np - (intOf v).toNat)
  case atStart => exact ⟨0, 0, _, rfl, rfl, by omega, by omega, by omega, HO4, HT0⟩
  case round =>
    obtain ⟨k, i, O, rfl, rfl, hi', k1, k2, HO, HG⟩ := hrel
    clear HO4 HT0
    by_cases hin : i < np
    · have hil : i < lp.length := by have := unhide HNP; omega
      obtain ⟨xb, hxb⟩ : ∃ xb, xb = lp[i] := ⟨_, rfl⟩
      have hxB : xb < 1000000000 := by rw [hxb]; exact (unhide HP).1 _ (List.getElem_mem hil)
      have hxb' : lp.getD i 0 = xb := by rw [hxb, List.getD_eq_getElem?_getD, List.getElem?_eq_getElem hil]; exact rfl
      obtain ⟨xc, hxc⟩ : ∃ xc, lq.getD i 0 = xc := ⟨_, rfl⟩
      have hcB : xc < 1000000000 := by
        rw [← hxc]
        by_cases hq : i < lq.length
        · rw [List.getD_eq_getElem?_getD, List.getElem?_eq_getElem hq]; exact (unhide HQ).1 _ (List.getElem_mem hq)
        · rw [List.getD_eq_getElem?_getD, List.getElem?_eq_none (by omega)]; decide
      obtain ⟨o1, o2, ⟨o3, o4⟩, ⟨o5, o6⟩⟩ := Cub.opp_bound (t := t) (m := m) (x := (xb : Int)) (z := (xc : Int)) ⟨t1, t2⟩ ⟨m1, m2⟩ (unhide HS) (by omega) (by omega)
      obtain ⟨s, hs⟩ : ∃ s, s = k + 1000000000000000000 + t * (xb : Int) + m * (xc : Int) := ⟨_, rfl⟩
      have s0 : 0 ≤ s := by omega
      have s1 : s ≤ 1999999999999999999 := by omega
      have HG' : Hid (Cub.TG lp lq (O.set i (s % 1000000000).toNat) t m (s / 1000000000 - 1000000000) (i + 1)) := (unhide HG).step hil (by rw [hxb', hxc]; exact hs) s0 s1
      have HSV : Hid (k + (1000000000000000000 + t * (xb : Int) + m * (xc : Int)) = s) := by show _ = _; omega
      obtain ⟨b1, p1, rfl, hcx⟩ := (unhide HP).2 wr (unhide HO).box.below i hil
      have hcx' : ∀ z : Later wr, z.world.cell? ⟨b1, p1 + i, none⟩ = some (.int .u64 (xb : Int)) := fun z => by
        obtain ⟨b2, p2, e2, hc2⟩ := (unhide HP).2 z.world ((unhide HO).box.below.trans (z.below.mono (unhide HO).box.below.size)) i hil
        simp only [Option.some.injEq, Addr.mk.injEq] at e2
        obtain ⟨rfl, rfl, _⟩ := e2
        rw [hc2, ← hxb]
      have HL : Hid (∀ z : Later wr, Calls Tryz.prog 123 #[.agg #[.slice aq nq cq], .int .i64 (i : Int)] z.world fun e w' => e = .returned (.int .u64 (xc : Int)) ∧ Below z.world.heap.size z.world w') := fun z => by
        have hnq := unhide HNQ
        have hr := (unhide HQ).2.later ((unhide HO).box.below.trans (z.below.mono (unhide HO).box.below.size))
        have := limb_any aq lq cq i z.world (by rw [hnq]; exact hr)
        rw [hxc, hnq] at this; exact this
      have c1 : ∀ z : Later wr, z.world.cell? ⟨w.heap.size, 0, none⟩ = some (.slice (some ⟨b1, p1, none⟩) np cp) := fun z => ((unhide HO).on z.below).box.c1
      have c2 : ∀ z : Later wr, z.world.cell? ⟨w.heap.size + 1, 0, none⟩ = some (.slice aq nq cq) := fun z => ((unhide HO).on z.below).box.c2
      have hin' : (i : Int) < (np : Int) := by omega
      clear hs hxb hxb' hxc hcx HG
      go_upto_region 6 with fail
      refine quiet_later (by kernel_rfl) (by kernel_rfl) ?_
      repeat (go_big_quiet_step ((rename_i xx; refine (unhide HL xx).mono ?_; rintro e w9 ⟨rfl, hb9⟩; have hz := xx.below.trans (hb9.mono xx.below.size); first | exact ⟨rfl, ⟨w9, hz⟩, rfl⟩ | exact ⟨rfl, hz⟩ | exact ⟨rfl, w9, hz, rfl⟩)))
      refine wpQuiet_nil ?_
      intro _ hw'
      obtain ⟨xz, hw''⟩ := hw'
      subst hw''
      rw [unhide HSV]
      obtain ⟨W, hW⟩ : ∃ W, W = xz.world := ⟨_, rfl⟩
      have HO2 : Hid (OutU w W (.slice (some ⟨b1, p1, none⟩) np cp) (.slice aq nq cq) np O) := by rw [hW]; exact (unhide HO).on xz.below
      rw [← hW]
      clear hW c1 c2 hcx' HL HSV HO o1 o2 o3 o4 o5 o6
      have hiO : i < O.length := by rw [(unhide HO2).len]; exact hin
      have hcO : W.cell? ⟨w.heap.size + 1 + 1 + 1, i, none⟩ = some (.int .u64 (O[i] : Int)) := (unhide HO2).own.cell i hiO
      have hfO := (unhide HO2).own.frozen i
      have hm0 : 0 ≤ s % 1000000000 := Int.emod_nonneg _ (by decide)
      have HO3 : Hid (OutU w (W.setCell ⟨w.heap.size + 1 + 1 + 1, i, none⟩ (.int .u64 (s % 1000000000))) (.slice (some ⟨b1, p1, none⟩) np cp) (.slice aq nq cq) np (O.set i (s % 1000000000).toNat)) := (unhide HO2).set i (s % 1000000000).toNat (s % 1000000000) (by omega)
      generalize O[i] = oi at *
      go_wp2_with fail
      go_roundw
      case rel => exact ⟨s / 1000000000 - 1000000000, i + 1, _, rfl, by go_num, by omega, (unhide HG').k1, (unhide HG').k2, HO3, HG'⟩
      case measure => simp [intOf]; omega
    · have hie : i = np := by omega
      subst hie
      obtain ⟨q1, q2, _⟩ := Cub.lval_trim 1000000000 _ O rfl
      have HF : Hid (Cub.normal 1000000000 (Cub.trimN O) ∧ Cub.lval 1000000000 (Cub.trimN O) = N) := by
        refine ⟨q2 (unhide HG).limbs, ?_⟩
        rw [q1]
        exact unhide HN O k (by rw [← unhide HNP]; exact unhide HG)
      have hsz := (unhide HO).box.size
      have br := (unhide HO).box.c3
      have fr := (unhide HO).box.f3
      clear q1 q2
      go_wp2_with (go_at_call 47; refine (trim_any _ O _ ((unhide HO).own.row i i (unhide HO).len.symm (Nat.le_refl _) (by unfold maxLen; omega))).mono ?_; rintro e w6 ⟨v', rfl, hrow6, hb6⟩; obtain ⟨a6, cap6, rfl, hcap6⟩ := hrow6.form; obtain ⟨hc6, hf6⟩ := box_later hb6 (g := w.heap.size + 1 + 1) (by omega) br fr)
      refine bodyPost_ret (v := .agg #[.slice a6 (Cub.trimN O).length cap6]) (by simp [results, Tryz.results109, go_sem, hc6]) rfl ⟨_, _, _, rfl, ?_, ?_⟩
      · exact ⟨_, _, rfl, hrow6.box _ hc6 (no_int _ _ _), (unhide HF).1, (unhide HF).2⟩
      · exact ((unhide HO).box.below.trans (hb6.mono (by omega))).setCell (p := ⟨w.heap.size + 1 + 1, 0, none⟩) (show w.heap.size ≤ w.heap.size + 1 + 1 by omega) _
end Go.Proofs.YtedohdcjichanaaGreatDoor
