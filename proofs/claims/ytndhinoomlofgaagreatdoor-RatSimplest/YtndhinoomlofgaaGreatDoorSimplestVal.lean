/- What rat.Simple answers: a number of the interval, with the least denominator. -/
import Derived.Test.YtndhinoomlofgaaGreatDoorRefSimple
import Derived.Test.YtndhinoomlofgaaGreatDoorOrdA
import Derived.Test.YtndhinoomlofgaaGreatDoorPairs
import Derived.Test.YtndhinoomlofgaaGreatDoorNeg
import Derived.Test.YtndhinoomlofgaaGreatDoorFrCf2
namespace Go.Proofs.YtndhinoomlofgaaGreatDoor
open Go.RowKit
theorem cf_above {a b c d : Nat} {ts : List Nat} (r : Cub.CF a b c d ts) (o : Cub.Ord a b c d) (ha : 0 < a) : (Cub.pr ts).1 ≠ 0 := by
  cases r with
  | whole h =>
    simp only [Cub.pr, Nat.mul_one, Nat.add_zero]
    have h1 := Nat.div_add_mod a b
    intro e
    rw [e, h] at h1
    omega
  | least h h2 => simp only [Cub.pr, Nat.mul_one, Nat.add_zero]; exact Nat.succ_ne_zero _
  | on h h2 r =>
    obtain ⟨o2, _⟩ := o.on h h2
    have := (r.bound o2).2.2.2.2
    simp only [Cub.pr]
    omega
theorem cf_low {a b c d : Nat} {ts : List Nat} (r : Cub.CF a b c d ts) (o : Cub.Ord a b c d) (ha : 0 < a) (s : Bool) : Cub.Low s (Cub.pr ts).1 (Cub.pr ts).2 :=
  ⟨(r.bound o).2.2.2.2, Cub.pr_gcd ts, fun _ => cf_above r o ha⟩
theorem cmpQ_lt {x y : Rat} : Cub.cmpQ x y < 0 ↔ x < y := by unfold Cub.cmpQ; grind
theorem cmpQ_gt {x y : Rat} : 0 < Cub.cmpQ x y ↔ y < x := by unfold Cub.cmpQ; grind
theorem abs_pos {x : Rat} (h : x ≠ 0) : 0 < x.num.natAbs := by
  have h1 : x.num ≠ 0 := fun e => h (Rat.num_eq_zero.1 e)
  omega
theorem neg_abs (x : Rat) : (-x).num.natAbs = x.num.natAbs ∧ (-x).den = x.den := by
  rw [Rat.neg_num, Rat.neg_den]
  exact ⟨Int.natAbs_neg _, rfl⟩
theorem sT_zero : sT false 0 = ⟨#[48]⟩ := by decide +kernel
end Go.Proofs.YtndhinoomlofgaaGreatDoor

namespace Cub
theorem CF.between {a b c d : Nat} {ts : List Nat} (r : CF a b c d ts) : Ord a b c d → a * (pr ts).2 ≤ (pr ts).1 * b ∧ (pr ts).1 * d ≤ c * (pr ts).2 := by
  induction r with
  | whole h =>
    rename_i a b c d
    intro o
    have ha := Nat.div_add_mod a b
    rw [h, Nat.add_zero] at ha
    simp only [pr, Nat.mul_one, Nat.add_zero]
    refine ⟨by rw [Nat.mul_comm]; omega, ?_⟩
    refine Nat.le_of_mul_le_mul_right ?_ o.b0
    calc a / b * d * b = b * (a / b) * d := by grind
      _ = a * d := by rw [ha]
      _ ≤ c * b := o.le
  | least h h2 =>
    rename_i a b c d
    intro o
    have ha := Nat.div_add_mod a b
    have hm := Nat.mod_lt a o.b0
    simp only [pr, Nat.mul_one, Nat.add_zero]
    refine ⟨?_, ?_⟩
    · rw [Nat.add_mul, Nat.one_mul, Nat.mul_comm (a / b) b]; omega
    · exact (Nat.le_div_iff_mul_le o.d0).1 h2
  | on h h2 r ih =>
    rename_i a b c d ts
    intro o
    obtain ⟨o2, e, l1, l2⟩ := o.on h h2
    obtain ⟨k1, k2⟩ := ih o2
    have ha := Nat.div_add_mod a b
    have hc := Nat.div_add_mod c d
    rw [← e] at hc
    obtain ⟨q, hq⟩ : ∃ q, q = a / b := ⟨_, rfl⟩
    obtain ⟨x, hx⟩ : ∃ x, x = a % b := ⟨_, rfl⟩
    obtain ⟨y, hy⟩ : ∃ y, y = c % d := ⟨_, rfl⟩
    rw [← hq, ← hx] at ha
    rw [← hq, ← hy] at hc
    rw [← hx] at k2
    rw [← hy] at k1
    simp only [pr]
    rw [← hq, ← ha, ← hc]
    refine ⟨?_, ?_⟩
    · calc (b * q + x) * (pr ts).1 = q * (pr ts).1 * b + (pr ts).1 * x := by grind
        _ ≤ q * (pr ts).1 * b + b * (pr ts).2 := Nat.add_le_add_left k2 _
        _ = (q * (pr ts).1 + (pr ts).2) * b := by grind
    · calc (q * (pr ts).1 + (pr ts).2) * d = d * q * (pr ts).1 + d * (pr ts).2 := by grind
        _ ≤ d * q * (pr ts).1 + (pr ts).1 * y := Nat.add_le_add_left k1 _
        _ = (d * q + y) * (pr ts).1 := by grind
theorem CF.least_den {a b c d : Nat} {ts : List Nat} (r : CF a b c d ts) : Ord a b c d → ∀ m n : Nat, 0 < n → a * n ≤ m * b → m * d ≤ c * n → (pr ts).2 ≤ n ∧ (pr ts).1 ≤ m := by
  induction r with
  | whole h =>
    rename_i a b c d
    intro o m n hn h1 h2
    have ha := Nat.div_add_mod a b
    rw [h, Nat.add_zero] at ha
    simp only [pr, Nat.mul_one, Nat.add_zero]
    refine ⟨hn, ?_⟩
    have h3 : a / b * n ≤ m := by
      refine Nat.le_of_mul_le_mul_right ?_ o.b0
      calc a / b * n * b = b * (a / b) * n := by grind
        _ = a * n := by rw [ha]
        _ ≤ m * b := h1
    exact Nat.le_trans (Nat.le_mul_of_pos_right _ hn) h3
  | least h h2 =>
    rename_i a b c d
    intro o m n hn h1 h2
    have ha := Nat.div_add_mod a b
    simp only [pr, Nat.mul_one, Nat.add_zero]
    refine ⟨hn, ?_⟩
    have h3 : a / b * n < m := by
      refine Nat.lt_of_mul_lt_mul_right (a := b) ?_
      have h4 : b * (a / b) < a := by omega
      calc a / b * n * b = b * (a / b) * n := by grind
        _ < a * n := Nat.mul_lt_mul_of_pos_right h4 hn
        _ ≤ m * b := h1
    have := Nat.le_mul_of_pos_right (a / b) hn
    omega
  | on h h2 r ih =>
    rename_i a b c d ts
    intro o m n hn h1 h3
    obtain ⟨o2, e, l1, l2⟩ := o.on h h2
    have ha := Nat.div_add_mod a b
    have hc := Nat.div_add_mod c d
    rw [← e] at hc
    obtain ⟨q, hq⟩ : ∃ q, q = a / b := ⟨_, rfl⟩
    obtain ⟨x, hx⟩ : ∃ x, x = a % b := ⟨_, rfl⟩
    obtain ⟨y, hy⟩ : ∃ y, y = c % d := ⟨_, rfl⟩
    have ih := ih o2
    rw [← hx, ← hy] at ih
    rw [← hq, ← hx] at ha
    rw [← hq, ← hy] at hc
    have hx0 : 0 < x := by omega
    have hqn : q * n ≤ m := by
      refine Nat.le_of_mul_le_mul_right ?_ o.b0
      calc q * n * b ≤ q * n * b + x * n := Nat.le_add_right _ _
        _ = (b * q + x) * n := by grind
        _ = a * n := by rw [ha]
        _ ≤ m * b := h1
    obtain ⟨k, rfl⟩ : ∃ k, m = q * n + k := ⟨m - q * n, by omega⟩
    have h4 : x * n ≤ k * b := by
      have : (b * q + x) * n ≤ (q * n + k) * b := by rw [ha]; exact h1
      have e1 : (b * q + x) * n = q * n * b + x * n := by grind
      have e2 : (q * n + k) * b = q * n * b + k * b := by grind
      omega
    have h5 : k * d ≤ y * n := by
      have : (q * n + k) * d ≤ (d * q + y) * n := by rw [hc]; exact h3
      have e1 : (q * n + k) * d = q * n * d + k * d := by grind
      have e2 : (d * q + y) * n = q * n * d + y * n := by grind
      omega
    have hk : 0 < k := by
      rcases Nat.eq_zero_or_pos k with h0 | h0
      · rw [h0, Nat.zero_mul] at h4
        have := Nat.mul_pos hx0 hn
        omega
      · exact h0
    obtain ⟨i1, i2⟩ := ih n k hk (by rw [Nat.mul_comm d k, Nat.mul_comm n y]; exact h5) (by rw [Nat.mul_comm n x, Nat.mul_comm b k]; exact h4)
    simp only [pr]
    rw [← hq]
    exact ⟨i2, Nat.add_le_add (Nat.mul_le_mul_left q i2) i1⟩
end Cub

namespace Go.Proofs.YtndhinoomlofgaaGreatDoor
open Go.RowKit
/-- It lies between, and none between has a smaller denominator. -/
structure Simplest (x y z : Rat) : Prop where
  small : Small z
  low : x ≤ z
  high : z ≤ y
  least : ∀ q : Rat, x ≤ q → q ≤ y → z.den ≤ q.den
theorem pos_le {p q : Rat} (hp : 0 < p) (hq : 0 < q) : p ≤ q ↔ p.num.natAbs * q.den ≤ q.num.natAbs * p.den := by
  have e1 := (Cub.low_of p).2
  have e2 := (Cub.low_of q).2
  rw [valQ_pos hp] at e1
  rw [valQ_pos hq] at e2
  have h : q < p ↔ Cub.sg false q.num.natAbs * (p.den : Int) < Cub.sg false p.num.natAbs * (q.den : Int) := by
    rw [← Cub.valQ_lt q.den_pos p.den_pos, e1, e2]
  rw [← Rat.not_lt, h]
  show ¬ ((q.num.natAbs : Nat) : Int) * (p.den : Int) < ((p.num.natAbs : Nat) : Int) * (q.den : Int) ↔ _
  have e3 : ((p.num.natAbs * q.den : Nat) : Int) = ((p.num.natAbs : Nat) : Int) * (q.den : Int) := by push_cast; rfl
  have e4 : ((q.num.natAbs * p.den : Nat) : Int) = ((q.num.natAbs : Nat) : Int) * (p.den : Int) := by push_cast; rfl
  rw [← e3, ← e4]
  omega
theorem valQ_above {n d : Nat} (hl : Cub.Low false n d) (hn : n ≠ 0) : 0 < Cub.valQ false n d := by
  have h1 := Cub.valQ_lt (b := false) (c := false) (n := 0) (d := 1) (m := n) (e := d) (by decide) hl.pos
  rw [Cub.valQ_zero] at h1
  rw [h1]
  show ((0 : Nat) : Int) * (d : Int) < ((n : Nat) : Int) * ((1 : Nat) : Int)
  omega
/-- Both above 0. -/
theorem simplest_pos {x y : Rat} {ts : List Nat} (hx : 0 < x) (hc : ¬ y < x) (sx : Small x) (hcf : Cub.CF x.num.natAbs x.den y.num.natAbs y.den ts) : Simplest x y (Cub.valQ false (Cub.pr ts).1 (Cub.pr ts).2) := by
  have hy : 0 < y := Std.lt_of_lt_of_le hx (Rat.not_lt.1 hc)
  have ho := ord_of hx hc
  have hxn : x ≠ 0 := fun e => by rw [e] at hx; exact absurd hx (by decide)
  have hn := cf_above hcf ho (abs_pos hxn)
  have hl := cf_low hcf ho (abs_pos hxn) false
  have hbn := hcf.bound ho
  have hz := valQ_above hl hn
  obtain ⟨_, e2, e3⟩ := Cub.low_is hl
  obtain ⟨b1, b2⟩ := hcf.between ho
  refine ⟨⟨?_, ?_⟩, (pos_le hx hz).2 ?_, (pos_le hz hy).2 ?_, fun q h1 h2 => ?_⟩
  · rw [← e2]; exact Nat.lt_of_le_of_lt hbn.1 sx.1
  · rw [← e3]; exact Nat.lt_of_le_of_lt hbn.2.2.1 sx.2
  · rw [← e2, ← e3]; exact b1
  · rw [← e2, ← e3]; exact b2
  · have hq : 0 < q := Std.lt_of_lt_of_le hx h1
    rw [← e3]
    exact (hcf.least_den ho q.num.natAbs q.den q.den_pos ((pos_le hx hq).1 h1) ((pos_le hq hy).1 h2)).1
theorem zero_numT : numT 0 = ⟨#[48]⟩ := by
  unfold numT
  rw [if_pos small_zero]
  exact sT_zero
theorem zero_denT : denT 0 = ⟨#[49]⟩ := by
  unfold denT
  rw [if_pos small_zero]
  show tb 1 = _
  decide +kernel
theorem errT_small {x : Rat} (h : Small x) : errT x = 0 := by unfold errT; rw [if_pos h]
theorem simple_val (n1 d1 n2 d2 : ByteArray) (x y : Rat) (h1 : IsR n1 d1 x) (h2 : IsR n2 d2 y) (hc : ¬ y < x) :
    ∃ z, Simplest x y z ∧ ∀ w, Tab w → Ans 55 #[.agg #[.string n1, .string d1], .agg #[.string n2, .string d2]] w (numT z) (denT z) 0 := by
  have hcp : ¬ Cub.cmpQ y x < 0 := fun h => hc (cmpQ_lt.1 h)
  by_cases hx : 0 < x
  · have hx0 : decide (x < 0) = false := valQ_pos hx
    have ho := ord_of hx hc
    obtain ⟨ts, hcf⟩ := Cub.CF.some ho
    have hs := simplest_pos hx hc h1.1 hcf
    refine ⟨_, hs, fun w ht => ?_⟩
    have h := simple_pos n1 d1 n2 d2 x y w h1 h2 ht hcp (fun h => absurd (cmpQ_gt.2 hx) (by omega)) hx0 (Cub.valQ false (Cub.pr ts).1 (Cub.pr ts).2) (fun W u v hu hv => simplestQ u v x y ts W hu hv hx hc h1.1 h2.1 hcf)
    rw [errT_small hs.small] at h
    exact h
  · have hs1 : Cub.cmpQ x 0 ≤ 0 := by
      have : ¬ 0 < Cub.cmpQ x 0 := fun h => hx (cmpQ_gt.1 h)
      omega
    by_cases hy : y < 0
    · have hx' : x < 0 := Std.lt_of_le_of_lt (Rat.not_lt.1 hc) hy
      have hx0 : decide (x < 0) = true := decide_eq_true hx'
      have hyp : 0 < -y := by grind
      have hc2 : ¬ -x < -y := by grind
      have ho := ord_of hyp hc2
      obtain ⟨ts, hcf⟩ := Cub.CF.some ho
      have hs := simplest_pos hyp hc2 (small_neg h2.1) hcf
      have hm : Simplest x y (-Cub.valQ false (Cub.pr ts).1 (Cub.pr ts).2) := by
        have l1 := hs.low; have l2 := hs.high
        generalize Cub.valQ false (Cub.pr ts).1 (Cub.pr ts).2 = z at *
        refine ⟨small_neg hs.small, by grind, by grind, fun q g1 g2 => ?_⟩
        have := hs.least (-q) (by grind) (by grind)
        rw [(neg_abs z).2]
        rw [(neg_abs q).2] at this
        exact this
      refine ⟨_, hm, fun w ht => ?_⟩
      have h := simple_neg n1 d1 n2 d2 x y w h1 h2 ht hcp hs1 (fun h => absurd (cmpQ_lt.2 hy) (by omega)) hx0 (Cub.valQ false (Cub.pr ts).1 (Cub.pr ts).2) (fun W u v hu hv => simplestQ u v (-y) (-x) ts W hu hv hyp hc2 (small_neg h2.1) (small_neg h1.1) hcf)
      rw [errT_small hm.small] at h
      exact h
    · have hs2 : 0 ≤ Cub.cmpQ y 0 := by
        have : ¬ Cub.cmpQ y 0 < 0 := fun h => hy (cmpQ_lt.1 h)
        omega
      refine ⟨0, ⟨small_zero, Rat.not_lt.1 hx, Rat.not_lt.1 hy, fun q _ _ => q.den_pos⟩, fun w ht => ?_⟩
      rw [zero_numT, zero_denT]
      refine simple_zero n1 d1 n2 d2 x y w h1 h2 hcp hs1 hs2 (fun W hb => ?_)
      have h := ratOf_pos 0 W (by omega) (ht.later hb)
      rw [sT_zero] at h
      exact h
/-- A number's text is no shorter, and at the same length not below, where the number is no smaller. -/
theorem den_text {n1 d1 n2 d2 : ByteArray} {z q : Rat} (h1 : IsR n1 d1 z) (h2 : IsR n2 d2 q) (h : z.den ≤ q.den) : ¬ d2.size < d1.size ∧ (d2.size = d1.size → Op.bytesLess d2.toList d1.toList = false) := by
  have e1 : d1 = tx z.den := by rw [h1.rt.den, tx_tb _ h1.rt.hd]
  have e2 : d2 = tx q.den := by rw [h2.rt.den, tx_tb _ h2.rt.hd]
  subst e1; subst e2
  refine ⟨fun hl => ?_, fun hl => ?_⟩
  · have := Cub.len_lt_dval (tx_nat q.den) (tx_nat z.den) (by rw [list_len, list_len]; exact hl)
    rw [show Cub.dval (tx q.den).data.toList = q.den from tx_val _, show Cub.dval (tx z.den).data.toList = z.den from tx_val _] at this
    omega
  · rw [toList_less _ _ (tx_nat q.den) (tx_nat z.den) hl, show Cub.dval (tx q.den).data.toList = q.den from tx_val _, show Cub.dval (tx z.den).data.toList = z.den from tx_val _]
    exact decide_eq_false (by omega)
end Go.Proofs.YtndhinoomlofgaaGreatDoor
