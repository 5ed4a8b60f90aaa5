/- The distance of two lists of runes: the table that fills itself. -/
import Derived.Test.YtiooiacebgojiabDoorChangesPre
namespace Go.Proofs.YtiooiacebgojiabDoor
open Go.RowKit

def dd (a b : Nat → Int) : Nat → Nat → Nat → Int
  | 0, i, j => ((i + j : Nat) : Int)
  | k + 1, i, j => stepF a b (dd a b k) i j
theorem dd_fuel (a b : Nat → Int) : ∀ (k l i j : Nat), i + j ≤ k → i + j ≤ l → dd a b k i j = dd a b l i j
  | 0, 0, _, _, _, _ => rfl
  | 0, l + 1, i, j, h, _ => by
    have hi : i = 0 := by omega
    show _ = stepF a b (dd a b l) i j
    unfold stepF
    rw [if_pos (.inl hi)]
    rfl
  | k + 1, 0, i, j, _, h => by
    have hi : i = 0 := by omega
    show stepF a b (dd a b k) i j = _
    unfold stepF
    rw [if_pos (.inl hi)]
    rfl
  | k + 1, l + 1, i, j, h1, h2 => by
    show stepF a b (dd a b k) i j = stepF a b (dd a b l) i j
    unfold stepF
    by_cases h0 : i = 0 ∨ j = 0
    · rw [if_pos h0, if_pos h0]
    · rw [if_neg h0, if_neg h0]
      rw [dd_fuel a b k l (i - 1) (j - 1) (by omega) (by omega), dd_fuel a b k l (i - 1) j (by omega) (by omega), dd_fuel a b k l i (j - 1) (by omega) (by omega), dd_fuel a b k l (i - 2) (j - 2) (by omega) (by omega)]
/-- The distance of the first i and the first j. -/
def dF (a b : Nat → Int) (i j : Nat) : Int := dd a b (i + j) i j
theorem dF_step (a b : Nat → Int) (i j : Nat) : dF a b i j = stepF a b (dF a b) i j := by
  have e : dF a b i j = dd a b (i + j + 1) i j := dd_fuel a b _ _ i j (by omega) (by omega)
  rw [e]
  show stepF a b (dd a b (i + j)) i j = _
  unfold stepF dF
  by_cases h0 : i = 0 ∨ j = 0
  · rw [if_pos h0, if_pos h0]
  · rw [if_neg h0, if_neg h0]
    rw [dd_fuel a b (i + j) (i - 1 + (j - 1)) (i - 1) (j - 1) (by omega) (by omega), dd_fuel a b (i + j) (i - 1 + j) (i - 1) j (by omega) (by omega), dd_fuel a b (i + j) (i + (j - 1)) i (j - 1) (by omega) (by omega), dd_fuel a b (i + j) (i - 2 + (j - 2)) (i - 2) (j - 2) (by omega) (by omega)]
theorem dF_lo (a b : Nat → Int) : ∀ (k i j : Nat), i + j ≤ k → 0 ≤ dF a b i j
  | k, i, j, h => by
    rw [dF_step]
    unfold stepF
    by_cases h0 : i = 0 ∨ j = 0
    · rw [if_pos h0]; omega
    · rw [if_neg h0]
      obtain ⟨k, rfl⟩ : ∃ k', k = k' + 1 := ⟨k - 1, by omega⟩
      have h1 := dF_lo a b k (i - 1) (j - 1) (by omega)
      have h2 := dF_lo a b k (i - 1) j (by omega)
      have h3 := dF_lo a b k i (j - 1) (by omega)
      have h4 := dF_lo a b k (i - 2) (j - 2) (by omega)
      simp only []
      split <;> split <;> omega
theorem dF_hi (a b : Nat → Int) : ∀ (k i j : Nat), i + j ≤ k → dF a b i j ≤ ((i + j : Nat) : Int)
  | k, i, j, h => by
    rw [dF_step]
    unfold stepF
    by_cases h0 : i = 0 ∨ j = 0
    · rw [if_pos h0]; omega
    · rw [if_neg h0]
      obtain ⟨k, rfl⟩ : ∃ k', k = k' + 1 := ⟨k - 1, by omega⟩
      have h2 := dF_hi a b k (i - 1) j (by omega)
      simp only []
      split <;> split <;> omega
theorem dF_dist (a b : Nat → Int) (n m : Nat) : Dist a b n m (dF a b) := ⟨fun i j _ _ => dF_step a b i j, fun i j => dF_lo a b _ i j (Nat.le_refl _), fun i j hi hj => by have := dF_hi a b _ i j (Nat.le_refl _); omega⟩
end Go.Proofs.YtiooiacebgojiabDoor
