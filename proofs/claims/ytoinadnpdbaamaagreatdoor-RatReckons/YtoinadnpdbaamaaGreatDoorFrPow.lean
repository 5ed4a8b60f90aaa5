/- Powers of fractions in lowest terms, plain. -/
import Derived.Test.YtoinadnpdbaamaaGreatDoorPlain
namespace Cub

theorem valQ_mul {b c : Bool} {n d m e : Nat} (hd : 0 < d) (he : 0 < e) : valQ b n d * valQ c m e = valQ (b != c) (n * m) (d * e) := by
  unfold valQ
  rw [← sg_mul]
  have h1 := dR hd
  have h2 := dR he
  push_cast
  grind
theorem parity (b : Bool) (k : Nat) : ((b && decide (k % 2 = 1)) != b) = (b && decide ((k + 1) % 2 = 1)) := by
  cases b
  · rfl
  · rcases Nat.mod_two_eq_zero_or_one k with h | h
    · have : (k + 1) % 2 = 1 := by omega
      simp [h, this]
    · have : (k + 1) % 2 = 0 := by omega
      simp [h, this]
theorem pow_val {b : Bool} {n d : Nat} (hd : 0 < d) (k : Nat) : valQ (b && decide (k % 2 = 1)) (n ^ k) (d ^ k) = (valQ b n d) ^ k := by
  induction k with
  | zero =>
    rw [Nat.pow_zero, Nat.pow_zero]
    have : (b && decide (0 % 2 = 1)) = false := by simp
    rw [this]
    show ((sg false 1 : Int) : Rat) / ((1 : Nat) : Rat) = _
    rw [show (valQ b n d) ^ 0 = 1 from by simp [Rat.pow_zero]]
    simp [sg]
    grind
  | succ k ih =>
    rw [Rat.pow_succ, ← ih, valQ_mul (Nat.pow_pos hd) hd, parity, ← Nat.pow_succ, ← Nat.pow_succ]
theorem pow_low {b : Bool} {n d : Nat} (h : Low b n d) (k : Nat) : Low (b && decide (k % 2 = 1)) (n ^ k) (d ^ k) ∧ valQ (b && decide (k % 2 = 1)) (n ^ k) (d ^ k) = (valQ b n d) ^ k := by
  refine ⟨⟨Nat.pow_pos h.pos, ?_, ?_⟩, pow_val h.pos k⟩
  · exact Nat.Coprime.pow k k h.cop
  · intro hb
    have hb' : b = true := by cases b <;> simp_all
    have hn := h.sign hb'
    exact Nat.pos_iff_ne_zero.1 (Nat.pow_pos (Nat.pos_iff_ne_zero.2 hn))
/-- A number to any power. -/
def pw (x : Rat) (j : Int) : Rat := if j < 0 then (x⁻¹) ^ (-j).toNat else x ^ j.toNat
theorem uv (u v : Rat) (h : u * v = 1) (a b : Nat) : u ^ (a + b) * v ^ b = u ^ a := by
  induction b with
  | zero => simp [Rat.pow_zero]
  | succ b ih =>
    rw [← Nat.add_assoc, Rat.pow_succ, Rat.pow_succ]
    have : u ^ (a + b) * u * (v ^ b * v) = u ^ (a + b) * v ^ b * (u * v) := by grind
    rw [this, h, ih, Rat.mul_one]
theorem pow_add' (u : Rat) (a b : Nat) : u ^ (a + b) = u ^ a * u ^ b := by
  induction b with
  | zero => simp [Rat.pow_zero]
  | succ b ih => rw [← Nat.add_assoc, Rat.pow_succ, ih, Rat.pow_succ]; grind
theorem pw_add (x : Rat) (hx : x ≠ 0) (m n : Int) : pw x m * pw x n = pw x (m + n) := by
  have h1 : x * x⁻¹ = 1 := Rat.mul_inv_cancel x hx
  have h2 : x⁻¹ * x = 1 := by rw [Rat.mul_comm]; exact h1
  unfold pw
  by_cases hm : m < 0
  · by_cases hn : n < 0
    · rw [if_pos hm, if_pos hn, if_pos (by omega), ← pow_add']
      congr 1; omega
    · rw [if_pos hm, if_neg hn]
      by_cases hs : m + n < 0
      · rw [if_pos hs]
        have e : (-m).toNat = (-(m + n)).toNat + n.toNat := by omega
        rw [e]; exact uv _ _ h2 _ _
      · rw [if_neg hs]
        have e : n.toNat = (m + n).toNat + (-m).toNat := by omega
        rw [e, Rat.mul_comm]; exact uv _ _ h1 _ _
  · by_cases hn : n < 0
    · rw [if_neg hm, if_pos hn]
      by_cases hs : m + n < 0
      · rw [if_pos hs]
        have e : (-n).toNat = (-(m + n)).toNat + m.toNat := by omega
        rw [e, Rat.mul_comm]; exact uv _ _ h2 _ _
      · rw [if_neg hs]
        have e : m.toNat = (m + n).toNat + (-n).toNat := by omega
        rw [e]; exact uv _ _ h1 _ _
    · rw [if_neg hm, if_neg hn, if_neg (by omega), ← pow_add']
      congr 1; omega
end Cub
