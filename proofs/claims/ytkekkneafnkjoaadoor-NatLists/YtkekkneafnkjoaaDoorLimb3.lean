/- Plain facts: how many decimal digits a number of limbs has, and its text, limb by limb. -/
import Derived.Test.YtkekkneafnkjoaaDoorLimb2
namespace Cub
open Go.Lib (nDigits decDigits)

def dcount (y : Nat) : Nat := if y = 0 then 0 else nDigits y
theorem dcount_zero : dcount 0 = 0 := rfl
theorem dcount_step (y : Nat) (h : 0 < y) : dcount y = dcount (y / 10) + 1 := by
  unfold dcount
  rw [if_neg (by omega)]
  by_cases h10 : y < 10
  · rw [Go.Lib.nDigits_small h10, if_pos (by omega)]
  · rw [Go.Lib.nDigits_big h10, if_neg (by omega)]
theorem dcount_pos (y : Nat) (h : 0 < y) : dcount y = nDigits y := by unfold dcount; rw [if_neg (by omega)]

theorem nDigits_ge (x : Nat) (h : 0 < x) : 10 ^ (nDigits x - 1) ≤ x := by
  have h1 := isNat_dec x
  by_cases h2 : 2 ≤ (decDigits x).length
  · have := isNat_pos h1 h2
    rw [dval_dec, Go.Lib.decDigits_length] at this; exact this
  · rw [Go.Lib.decDigits_length] at h2
    have : nDigits x - 1 = 0 := by omega
    rw [this]; omega

theorem nDigits_top (t : List Nat) (x : Nat) (ht : limbs 1000000000 t) (hx : 0 < x) : nDigits (lval 1000000000 (t ++ [x])) = 9 * t.length + nDigits x := by
  have h1 := nDigits_ge x hx
  have h2 := Go.Lib.lt_pow_nDigits x
  have h3 := lval_lt ht
  have h4 := Go.Lib.nDigits_pos x
  rw [show 9 * t.length + nDigits x = (9 * t.length + (nDigits x - 1)) + 1 by omega]
  rw [lval_snoc]
  have p1 : 10 ^ (9 * t.length + (nDigits x - 1)) = 1000000000 ^ t.length * 10 ^ (nDigits x - 1) := by rw [Nat.pow_add, pow9]
  have p2 : 10 ^ (9 * t.length + (nDigits x - 1) + 1) = 1000000000 ^ t.length * 10 ^ (nDigits x) := by
    rw [show 9 * t.length + (nDigits x - 1) + 1 = 9 * t.length + nDigits x by omega, Nat.pow_add, pow9]
  apply Go.Lib.nDigits_unique
  · rw [p1]
    have := Nat.mul_le_mul_left (1000000000 ^ t.length) h1
    omega
  · rw [p2]
    have : 1000000000 ^ t.length * (x + 1) ≤ 1000000000 ^ t.length * 10 ^ (nDigits x) := Nat.mul_le_mul_left _ h2
    rw [Nat.mul_add] at this
    omega

theorem nDigits_le9 (x : Nat) (h : x < 1000000000) : nDigits x ≤ 9 := by
  have := (dec_len_lt x 9 (by decide)).2 (by simpa using h)
  rwa [Go.Lib.decDigits_length] at this

theorem len_le {l : List Nat} {k : Nat} (h : normal 1000000000 l) (hk : lval 1000000000 l < 1000000000 ^ k) : l.length ≤ k := by
  by_cases hne : l = []
  · subst hne; simp
  · have h1 := normal_ge h hne
    have h2 := (Nat.pow_lt_pow_iff_right (by decide : 1 < 1000000000)).1 (Nat.lt_of_le_of_lt h1 hk)
    omega

theorem split_last {l : List Nat} (h : l ≠ []) : ∃ t x, l = t ++ [x] := by
  rcases List.eq_nil_or_concat l with h0 | ⟨t, c, rfl⟩
  · exact absurd h0 h
  · exact ⟨t, c, by rw [List.concat_eq_append]⟩

theorem normal_last {t : List Nat} {x : Nat} (h : normal 1000000000 (t ++ [x])) : limbs 1000000000 t ∧ 0 < x ∧ x < 1000000000 := by
  refine ⟨(limbs_append.1 h.1).1, ?_, (limbs_append.1 h.1).2 x (by simp)⟩
  have : x ≠ 0 := by intro e; apply h.2; simp [e]
  omega
end Cub
