/- Plain facts: the text of a number of limbs, limb by limb. -/
import Derived.Test.YtkekkneafnkjoaaDoorLimb3
namespace Cub
open Go.Lib (nDigits decDigits)

/-- The last k digits of d, each one told. -/
def padn : Nat → Nat → List UInt8
  | 0, _ => []
  | k + 1, d => padn k (d / 10) ++ [UInt8.ofNat (48 + d % 10)]

theorem padn_length (k : Nat) : ∀ d, (padn k d).length = k := by
  induction k with
  | zero => intro d; rfl
  | succ k ih => intro d; simp [padn, ih]

theorem dec_pad (k : Nat) : ∀ (q r : Nat), 0 < q → r < 10 ^ k → decDigits (10 ^ k * q + r) = decDigits q ++ padn k r := by
  induction k with
  | zero => intro q r hq hr; have : r = 0 := by simpa using hr
            subst this; simp [padn]
  | succ k ih =>
    intro q r hq hr
    have hp : 0 < 10 ^ k := Nat.pow_pos (by decide)
    have h1 : 10 ≤ 10 ^ (k + 1) * q + r := by
      rw [Nat.pow_succ]
      have : 10 ^ k * 10 * 1 ≤ 10 ^ k * 10 * q := Nat.mul_le_mul_left _ hq
      omega
    have e : 10 ^ (k + 1) * q + r = 10 * (10 ^ k * q) + r := by rw [Nat.pow_succ, Nat.mul_comm (10 ^ k) 10, Nat.mul_assoc]
    rw [decDigits, dif_neg (by omega)]
    have d1 : (10 ^ (k + 1) * q + r) / 10 = 10 ^ k * q + r / 10 := by rw [e]; omega
    have d2 : (10 ^ (k + 1) * q + r) % 10 = r % 10 := by rw [e]; omega
    rw [d1, d2, ih q (r / 10) hq (by rw [Nat.pow_succ] at hr; omega)]
    simp [padn]

theorem pad_step (d j : Nat) (hj : j + 1 ≤ 9) : padn (9 - (j + 1)) (d / 10 ^ (j + 1)) ++ [UInt8.ofNat (48 + d / 10 ^ j % 10)] = padn (9 - j) (d / 10 ^ j) := by
  rw [show 9 - j = (9 - (j + 1)) + 1 by omega]
  simp only [padn]
  rw [Nat.div_div_eq_div_mul, ← Nat.pow_succ]

theorem pad_all (d : Nat) : padn (9 - 0) (d / 10 ^ 0) = padn 9 d := by simp

/-- One limb more of the text. -/
theorem dec_limb (l : List Nat) (i : Nat) (hi : i < l.length) (hl : limbs 1000000000 l) (hq : 0 < lval 1000000000 (l.drop (i + 1))) :
    decDigits (lval 1000000000 (l.drop i)) = decDigits (lval 1000000000 (l.drop (i + 1))) ++ padn 9 l[i] := by
  have hx := hl l[i] (List.getElem_mem hi)
  rw [List.drop_eq_getElem_cons hi]
  simp only [lval]
  rw [Nat.add_comm]
  exact dec_pad 9 _ _ hq hx

theorem drop_pos {l : List Nat} (h : normal 1000000000 l) (i : Nat) (hi : i < l.length) : 0 < lval 1000000000 (l.drop i) := by
  have hne : l.drop i ≠ [] := by intro e; have := congrArg List.length e; simp at this; omega
  have hn : normal 1000000000 (l.drop i) := by
    refine ⟨fun x hx => h.1 x (List.mem_of_mem_drop hx), ?_⟩
    rw [List.getLast?_drop, if_neg (by omega)]; exact h.2
  have h1 := normal_ge hn hne
  have : 0 < 1000000000 ^ ((l.drop i).length - 1) := Nat.pow_pos (by decide)
  omega

theorem drop_last (t : List Nat) (x : Nat) : lval 1000000000 ((t ++ [x]).drop t.length) = x := by simp [lval]

/-- The unit that goes with j digits to be told. -/
def unitOf (j : Nat) : Nat := if j = 0 then 0 else 10 ^ (j - 1)
theorem unit_div (j : Nat) : unitOf (j + 1) / 10 = unitOf j := by
  unfold unitOf
  rw [if_neg (by omega)]
  cases j with
  | zero => rfl
  | succ k => rw [if_neg (by omega)]; simp [Nat.pow_succ]
theorem unit_pos (j : Nat) : 0 < unitOf j ↔ 0 < j := by
  unfold unitOf
  by_cases h : j = 0
  · simp [h]
  · rw [if_neg h]; exact ⟨fun _ => by omega, fun _ => Nat.pow_pos (by decide)⟩
theorem unit_le (j : Nat) (h : j ≤ 9) : unitOf j ≤ 100000000 := by
  unfold unitOf
  split
  · omega
  · have : 10 ^ (j - 1) ≤ 10 ^ 8 := Nat.pow_le_pow_right (by decide) (by omega)
    simpa using this
theorem unit_at (j : Nat) : unitOf (j + 1) = 10 ^ j := by unfold unitOf; rw [if_neg (by omega)]; rfl
end Cub
