/- A Frac of a value in lowest terms. -/
import Derived.Test.YtpoapffbpgnkpaaGreatDoorTell
import Derived.Test.YtpoapffbpgnkpaaGreatDoorAddSigned
import Derived.Test.YtpoapffbpgnkpaaGreatDoorShelf

namespace Go.Proofs.YtpoapffbpgnkpaaGreatDoor
open Go.RowKit

/-- Two texts are those of a number. -/
def IsR (num den : ByteArray) (x : Rat) : Prop := Small x ∧ num = numT x ∧ den = denT x
theorem IsR.rt {num den : ByteArray} {x : Rat} (h : IsR num den x) : RT num den (decide (x < 0)) x.num.natAbs x.den := by
  obtain ⟨hs, rfl, rfl⟩ := h
  unfold numT denT
  rw [if_pos hs, if_pos hs]
  exact ⟨rfl, rfl, hs.1, hs.2, (Cub.low_of x).1⟩
theorem IsR.size {num den : ByteArray} {x : Rat} (h : IsR num den x) : num.size ≤ 601 ∧ den.size ≤ 600 := by
  have r := h.rt
  rw [r.num, r.den]
  exact ⟨sT_size _ _ r.hn, (tb_digs _ r.hd).2⟩
theorem qread (num den : ByteArray) (x : Rat) (w : World) (h : IsR num den x) :
    Calls Tryz.prog 76 #[.agg #[.string num, .string den]] w fun r w' => ∃ v, r = .returned (.tuple #[v, .bool true]) ∧ QOf w' v x 67 ∧ Below w.heap.size w w' := by
  have r := h.rt
  have := read_ok num den _ _ _ w r.num r.den r.hn r.hd r.low.sign (by have := r.low.pos; omega) r.low.cop
  rwa [(Cub.low_of x).2] at this
/-- Two numbers in their boxes, two boxes of Fracs. -/
structure W2 (w W : World) (x y z t p0 p1 p2 q0 q1 q2 : Value) : Prop where
  a : T2 W w.heap.size x y
  b : T2 W (w.heap.size + 1) z t
  p : FBox W (w.heap.size + 1 + 1) p0 p1 p2
  q : FBox W (w.heap.size + 1 + 1 + 1) q0 q1 q2
  below : Below w.heap.size w W
theorem W2.later {w W V : World} {x y z t p0 p1 p2 q0 q1 q2 : Value} (s : W2 w W x y z t p0 p1 p2 q0 q1 q2) (hb : Below W.heap.size W V) : W2 w V x y z t p0 p1 p2 q0 q1 q2 :=
  ⟨s.a.later hb, s.b.later hb, s.p.later hb, s.q.later hb, s.below.trans (hb.mono s.below.size)⟩
theorem W2.first (w : World) (x y z t : Value) : W2 w ((((w.alloc (.cells #[x, y] 26)).alloc (.cells #[z, t] 26)).alloc (.cells #[.bool false, .slice none 0 0, .slice none 0 0] 83)).alloc (.cells #[.bool false, .slice none 0 0, .slice none 0 0] 83)) x y z t (.bool false) (.slice none 0 0) (.slice none 0 0) (.bool false) (.slice none 0 0) (.slice none 0 0) :=
  ⟨⟨by simp [go_sem], by simp [go_sem], by simp [go_sem], by simp [go_sem]⟩, ⟨by simp [go_sem], by simp [go_sem], by simp [go_sem], by simp [go_sem]⟩, ⟨by simp [go_sem], by simp [go_sem], by simp [go_sem], by simp [go_sem], by simp [go_sem], by simp [go_sem]⟩, ⟨by simp [go_sem], by simp [go_sem], by simp [go_sem], by simp [go_sem], by simp [go_sem], by simp [go_sem]⟩,
    ((((Below.refl _ _).alloc (Nat.le_refl _) _).alloc (by simp) _).alloc (by simp; omega) _).alloc (by simp; omega) _⟩
theorem FBox.other3 {W : World} {g k : Nat} {x y z : Value} (h : FBox W g x y z) (hk : g ≠ k) (u v s : Value) : FBox (store3 W k u v s) g x y z := ((h.otherAt hk u).otherAt hk v).otherAt hk s
theorem T2.other3 {W : World} {g k : Nat} {x y : Value} (h : T2 W g x y) (hk : g ≠ k) (u v s : Value) : T2 (store3 W k u v s) g x y := ((h.otherAt hk u).otherAt hk v).otherAt hk s
theorem QOf.over {W : World} {g : Nat} {b : Bool} {a1 a2 : Option Addr} {l1 c1 l2 c2 : Nat} (h : FBox W g (.bool b) (.slice a1 l1 c1) (.slice a2 l2 c2)) (u v r : Value) {vv : Value} {x : Rat} {k : Nat}
    (hv : QOf W vv x k) : QOf (store3 W g u v r) vv x k := by
  obtain ⟨b0, n, d, ⟨s, t, e, h1, h1'⟩, h2⟩ := hv
  exact ⟨b0, n, d, ⟨s, t, e, h.big _ _ _ h1, h.big _ _ _ h1'⟩, h2⟩

end Go.Proofs.YtpoapffbpgnkpaaGreatDoor

namespace Go.Proofs.YtpoapffbpgnkpaaGreatDoor
open Go.RowKit

/-- Two numbers in their boxes, a number's box, and two Fracs' boxes behind them (or none yet). -/
structure O3 (w W : World) (x y z t : Value) : Prop where
  a : T2 W w.heap.size x y
  b : T2 W (w.heap.size + 1) z t
  r : T2 W (w.heap.size + 1 + 1) (.string ⟨#[]⟩) (.string ⟨#[]⟩)
  below : Below w.heap.size w W
theorem O3.later {w W V : World} {x y z t : Value} (s : O3 w W x y z t) (hb : Below W.heap.size W V) : O3 w V x y z t :=
  ⟨s.a.later hb, s.b.later hb, s.r.later hb, s.below.trans (hb.mono s.below.size)⟩
theorem O3.first (w : World) (x y z t : Value) : O3 w (((w.alloc (.cells #[x, y] 26)).alloc (.cells #[z, t] 26)).alloc (.cells #[.string ⟨#[]⟩, .string ⟨#[]⟩] 26)) x y z t :=
  ⟨⟨by simp [go_sem], by simp [go_sem], by simp [go_sem], by simp [go_sem]⟩, ⟨by simp [go_sem], by simp [go_sem], by simp [go_sem], by simp [go_sem]⟩, ⟨by simp [go_sem], by simp [go_sem], by simp [go_sem], by simp [go_sem]⟩,
    (((Below.refl _ _).alloc (Nat.le_refl _) _).alloc (by simp) _).alloc (by simp; omega) _⟩
/-- What a call on two numbers answers. -/
def Ans (f : Nat) (args : Array Value) (w : World) (s t : ByteArray) (e : Int) : Prop :=
  Calls Tryz.prog f args w fun r w' => r = .returned (.tuple #[.agg #[.string s, .string t], .int .i64 e]) ∧ Below w.heap.size w w'

end Go.Proofs.YtpoapffbpgnkpaaGreatDoor

namespace Go.Proofs.YtpoapffbpgnkpaaGreatDoor
open Go.RowKit

/-- A number in its box, and the box of another one. -/
structure N1 (w W : World) (x y : Value) : Prop where
  a : T2 W w.heap.size x y
  r : T2 W (w.heap.size + 1) (.string ⟨#[]⟩) (.string ⟨#[]⟩)
  below : Below w.heap.size w W
theorem N1.later {w W V : World} {x y : Value} (s : N1 w W x y) (hb : Below W.heap.size W V) : N1 w V x y := ⟨s.a.later hb, s.r.later hb, s.below.trans (hb.mono s.below.size)⟩
theorem N1.first (w : World) (x y : Value) : N1 w ((w.alloc (.cells #[x, y] 26)).alloc (.cells #[.string ⟨#[]⟩, .string ⟨#[]⟩] 26)) x y :=
  ⟨⟨by simp [go_sem], by simp [go_sem], by simp [go_sem], by simp [go_sem]⟩, ⟨by simp [go_sem], by simp [go_sem], by simp [go_sem], by simp [go_sem]⟩, ((Below.refl _ _).alloc (Nat.le_refl _) _).alloc (by simp) _⟩

theorem cmp_zero (y : Rat) (h : y ≠ 0) : (Cub.cmpQ y 0 == 0) = false := by
  rw [beq_eq_false_iff_ne]
  unfold Cub.cmpQ
  split
  · decide
  · split
    · decide
    · exfalso; apply h; grind
end Go.Proofs.YtpoapffbpgnkpaaGreatDoor

namespace Cub

theorem valQ_mul {b c : Bool} {n d m e : Nat} (hd : 0 < d) (he : 0 < e) : valQ b n d * valQ c m e = valQ (b != c) (n * m) (d * e) := by
  unfold valQ
  rw [← sg_mul]
  have h1 := dR hd
  have h2 := dR he
  push_cast
  grind
theorem parity (b : Bool) (k : Nat) : ((b && decide (k % 2 = 1)) != b) = (b && decide ((k + 1) % 2 = 1)) := by
  cases b
  · rfl
  · rcases Nat.mod_two_eq_zero_or_one k with h | h
    · have : (k + 1) % 2 = 1 := by omega
      simp [h, this]
    · have : (k + 1) % 2 = 0 := by omega
      simp [h, this]
theorem pow_val {b : Bool} {n d : Nat} (hd : 0 < d) (k : Nat) : valQ (b && decide (k % 2 = 1)) (n ^ k) (d ^ k) = (valQ b n d) ^ k := by
  induction k with
  | zero =>
    rw [Nat.pow_zero, Nat.pow_zero]
    have : (b && decide (0 % 2 = 1)) = false := by simp
    rw [this]
    show ((sg false 1 : Int) : Rat) / ((1 : Nat) : Rat) = _
    rw [show (valQ b n d) ^ 0 = 1 from by simp [Rat.pow_zero]]
    simp [sg]
    grind
  | succ k ih =>
    rw [Rat.pow_succ, ← ih, valQ_mul (Nat.pow_pos hd) hd, parity, ← Nat.pow_succ, ← Nat.pow_succ]
theorem pow_low {b : Bool} {n d : Nat} (h : Low b n d) (k : Nat) : Low (b && decide (k % 2 = 1)) (n ^ k) (d ^ k) ∧ valQ (b && decide (k % 2 = 1)) (n ^ k) (d ^ k) = (valQ b n d) ^ k := by
  refine ⟨⟨Nat.pow_pos h.pos, ?_, ?_⟩, pow_val h.pos k⟩
  · exact Nat.Coprime.pow k k h.cop
  · intro hb
    have hb' : b = true := by cases b <;> simp_all
    have hn := h.sign hb'
    exact Nat.pos_iff_ne_zero.1 (Nat.pow_pos (Nat.pos_iff_ne_zero.2 hn))
/-- A number to any power. -/
def pw (x : Rat) (j : Int) : Rat := if j < 0 then (x⁻¹) ^ (-j).toNat else x ^ j.toNat
end Cub

namespace Go.Proofs.YtpoapffbpgnkpaaGreatDoor
open Go.RowKit
theorem lit_tb (s : ByteArray) (n : Nat) (h : Cub.rightB s.data.toList = true) (hv : Cub.dval s.data.toList = n) : s = tb n ∧ n < 10 ^ 600 := by
  obtain ⟨m, hm, rfl⟩ := tb_of h
  have := (tb_right m hm).2
  have e : m = n := this.symm.trans hv
  subst e
  exact ⟨rfl, hm⟩
end Go.Proofs.YtpoapffbpgnkpaaGreatDoor

namespace Go.Proofs.YtpoapffbpgnkpaaGreatDoor
open Go.RowKit
theorem QOf.exact {w : World} {v : Value} {b : Bool} {n d k : Nat} (h : QOf w v (Cub.valQ b n d) k) (hl : Cub.Low b n d) : IsFrac w v b n d := by
  obtain ⟨b', n', d', h1, h2, h3, _⟩ := h
  obtain ⟨rfl, rfl, rfl⟩ := Cub.low_unique h2 hl h3
  exact h1
end Go.Proofs.YtpoapffbpgnkpaaGreatDoor
