/- Plain facts: products limb by limb. -/
import Derived.Test.YtkekkneafnkjoaaDoorRefMinus
namespace Cub
/-- A list in the making, with what is carried to place p: together they are V. -/
structure Acc (B : Nat) (O : List Nat) (c p V : Nat) : Prop where
  lim : limbs B O
  val : lval B O + B ^ p * c = V

theorem Acc.step {B : Nat} {O : List Nat} {c p V : Nat} (h : Acc B O c p V) (hB : 0 < B) (hp : p < O.length) (t : Nat) :
    Acc B (O.set p ((c + O[p] + t) % B)) ((c + O[p] + t) / B) (p + 1) (V + B ^ p * t) := by
  refine ⟨limbs_set h.lim p _ (Nat.mod_lt _ hB), ?_⟩
  have e1 := lval_set B O p ((c + O[p] + t) % B) hp
  have e2 := h.val
  have e3 : c + O[p] + t = B * ((c + O[p] + t) / B) + (c + O[p] + t) % B := (Nat.div_add_mod _ _).symm
  generalize (c + O[p] + t) / B = q at *
  generalize (c + O[p] + t) % B = r at *
  have e4 := congrArg (B ^ p * ·) e3
  simp only [Nat.mul_add] at e4
  rw [Nat.pow_succ]
  have m1 : B ^ p * B * q = B ^ p * (B * q) := Nat.mul_assoc _ _ _
  omega

theorem Acc.none {B : Nat} {O : List Nat} {c p V : Nat} (h : Acc B O c p V) (hV : V < B ^ p) : c = 0 := by
  rcases Nat.eq_zero_or_pos c with h0 | h0
  · exact h0
  · have : B ^ p * 1 ≤ B ^ p * c := Nat.mul_le_mul_left _ h0
    have := h.val
    omega

theorem carry_lt (B c o x y : Nat) (hc : c < B) (ho : o < B) (hx : x < B) (hy : y < B) : (c + o + x * y) / B < B := by
  apply Nat.div_lt_of_lt_mul
  obtain ⟨b, rfl⟩ : ∃ b, B = b + 1 := ⟨B - 1, by omega⟩
  have h1 : x * y ≤ b * b := Nat.mul_le_mul (by omega) (by omega)
  have h2 : (b + 1) * (b + 1) = b * b + b + b + 1 := by rw [Nat.add_mul, Nat.mul_add]; omega
  omega
theorem carry_lt' (B c o : Nat) (hc : c < B) (ho : o < B) (hB : 2 ≤ B) : (c + o) / B < B := by
  apply Nat.div_lt_of_lt_mul
  have : B * 2 ≤ B * B := Nat.mul_le_mul_left _ hB
  omega

theorem get_zero {B : Nat} {O : List Nat} {p : Nat} (h : lval B O < B ^ p) (hp : p < O.length) : O[p] = 0 := by
  rcases Nat.eq_zero_or_pos O[p] with h0 | h0
  · exact h0
  · have e := lval_set B O p 0 hp
    have : B ^ p * 1 ≤ B ^ p * O[p] := Nat.mul_le_mul_left _ h0
    omega

theorem mul_lt (B : Nat) (x y : List Nat) (hx : limbs B x) (hy : limbs B y) (i : Nat) : lval B (x.take i) * lval B y < B ^ (i + y.length) ∨ B = 0 := by
  rcases Nat.eq_zero_or_pos B with h0 | h0
  · exact Or.inr h0
  · left
    have h1 := lval_lt (B := B) (l := x.take i) (fun z hz => hx z (List.mem_of_mem_take hz))
    have h2 := lval_lt hy
    have h3 : B ^ (x.take i).length ≤ B ^ i := Nat.pow_le_pow_right h0 (List.length_take_le _ _)
    rw [Nat.pow_add]
    exact Nat.mul_lt_mul'' (by omega) h2

theorem lval_zeros (B n : Nat) : lval B (List.replicate n 0) = 0 := by
  induction n with
  | zero => rfl
  | succ n ih => simp [List.replicate_succ, lval, ih]
theorem limbs_zeros (B n : Nat) (hB : 0 < B) : limbs B (List.replicate n 0) := fun x hx => by
  rw [List.mem_replicate] at hx; omega

/-- One more limb of y. -/
theorem val_inner (B a i k : Nat) (y : List Nat) (V : Nat) : V + B ^ i * (a * lval B (y.take k)) + B ^ (i + k) * (a * y.getD k 0) = V + B ^ i * (a * lval B (y.take (k + 1))) := by
  rw [takeB, Nat.mul_add, Nat.mul_add, Nat.pow_add]
  have : B ^ i * (a * (B ^ k * y.getD k 0)) = B ^ i * B ^ k * (a * y.getD k 0) := by
    rw [Nat.mul_left_comm a, ← Nat.mul_assoc]
  omega
theorem val_outer (B i : Nat) (x y : List Nat) : lval B (x.take i) * lval B y + B ^ i * (x.getD i 0 * lval B y) = lval B (x.take (i + 1)) * lval B y := by
  rw [takeB, Nat.add_mul, Nat.mul_assoc]
end Cub
