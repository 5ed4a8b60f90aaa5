/- The distance of two lists of runes is a distance. -/
import Derived.Test.YtiooiacebgojiabDoorDist
namespace Go.Proofs.YtiooiacebgojiabDoor
open Go.RowKit

theorem dF_symm (a b : Nat → Int) : ∀ (k i j : Nat), i + j ≤ k → dF a b i j = dF b a j i
  | k, i, j, h => by
    rw [dF_step a b i j, dF_step b a j i]
    unfold stepF
    by_cases h0 : i = 0 ∨ j = 0
    · rw [if_pos h0, if_pos (c := j = 0 ∨ i = 0) h0.symm]; omega
    · rw [if_neg h0, if_neg (c := j = 0 ∨ i = 0) (fun h => h0 h.symm)]
      obtain ⟨k, rfl⟩ : ∃ k', k = k' + 1 := ⟨k - 1, by omega⟩
      have h1 := dF_symm a b k (i - 1) (j - 1) (by omega)
      have h2 := dF_symm a b k (i - 1) j (by omega)
      have h3 := dF_symm a b k i (j - 1) (by omega)
      have h4 := dF_symm a b k (i - 2) (j - 2) (by omega)
      have e1 : (a (i - 1) = b (j - 1)) ↔ (b (j - 1) = a (i - 1)) := ⟨Eq.symm, Eq.symm⟩
      have e2 : (1 < i ∧ 1 < j ∧ a (i - 1) = b (j - 2) ∧ a (i - 2) = b (j - 1)) ↔ (1 < j ∧ 1 < i ∧ b (j - 1) = a (i - 2) ∧ b (j - 2) = a (i - 1)) := ⟨fun h => ⟨h.2.1, h.1, h.2.2.2.symm, h.2.2.1.symm⟩, fun h => ⟨h.2.1, h.1, h.2.2.2.symm, h.2.2.1.symm⟩⟩
      simp only []
      rw [h1, h2, h3, h4]
      generalize dF b a (j - 1) (i - 1) = x1
      generalize dF b a j (i - 1) = x2
      generalize dF b a (j - 1) i = x3
      generalize dF b a (j - 2) (i - 2) = x4
      by_cases c1 : b (j - 1) = a (i - 1)
      · by_cases c2 : 1 < j ∧ 1 < i ∧ b (j - 1) = a (i - 2) ∧ b (j - 2) = a (i - 1)
        · rw [if_pos (e1.2 c1), if_pos (e2.2 c2), if_pos c1, if_pos c2]; omega
        · rw [if_pos (e1.2 c1), if_neg (fun h => c2 (e2.1 h)), if_pos c1, if_neg c2]; omega
      · by_cases c2 : 1 < j ∧ 1 < i ∧ b (j - 1) = a (i - 2) ∧ b (j - 2) = a (i - 1)
        · rw [if_neg (fun h => c1 (e1.1 h)), if_pos (e2.2 c2), if_neg c1, if_pos c2]; omega
        · rw [if_neg (fun h => c1 (e1.1 h)), if_neg (fun h => c2 (e2.1 h)), if_neg c1, if_neg c2]; omega
theorem dF_diff (a b : Nat → Int) : ∀ (k i j : Nat), i + j ≤ k → (i : Int) - j ≤ dF a b i j ∧ (j : Int) - i ≤ dF a b i j
  | k, i, j, h => by
    rw [dF_step]
    unfold stepF
    by_cases h0 : i = 0 ∨ j = 0
    · rw [if_pos h0]; omega
    · rw [if_neg h0]
      obtain ⟨k, rfl⟩ : ∃ k', k = k' + 1 := ⟨k - 1, by omega⟩
      have h1 := dF_diff a b k (i - 1) (j - 1) (by omega)
      have h2 := dF_diff a b k (i - 1) j (by omega)
      have h3 := dF_diff a b k i (j - 1) (by omega)
      have h4 := dF_diff a b k (i - 2) (j - 2) (by omega)
      simp only []
      split <;> split <;> omega
theorem dF_max (a b : Nat → Int) : ∀ (k i j : Nat), i + j ≤ k → dF a b i j ≤ max (i : Int) j
  | k, i, j, h => by
    rw [dF_step]
    unfold stepF
    by_cases h0 : i = 0 ∨ j = 0
    · rw [if_pos h0]; omega
    · rw [if_neg h0]
      obtain ⟨k, rfl⟩ : ∃ k', k = k' + 1 := ⟨k - 1, by omega⟩
      have h1 := dF_max a b k (i - 1) (j - 1) (by omega)
      simp only []
      split <;> split <;> omega
theorem dF_same (a b : Nat → Int) : ∀ (i : Nat), (∀ k, k < i → a k = b k) → dF a b i i = 0
  | 0, _ => by rw [dF_step]; unfold stepF; rw [if_pos (.inl rfl)]; rfl
  | i + 1, h => by
    have h1 := dF_same a b i (fun k hk => h k (by omega))
    have h2 := dF_lo a b _ i (i + 1) (Nat.le_refl _)
    have h3 := dF_lo a b _ (i + 1) i (Nat.le_refl _)
    have h4 := dF_lo a b _ (i + 1 - 2) (i + 1 - 2) (Nat.le_refl _)
    rw [dF_step]
    unfold stepF
    rw [if_neg (by omega)]
    simp only [Nat.add_sub_cancel]
    rw [if_pos (h i (by omega)), h1]
    split <;> omega
theorem dF_zero (a b : Nat → Int) : ∀ (n i j : Nat), i + j ≤ n → dF a b i j = 0 → i = j ∧ ∀ k, k < i → a k = b k
  | n, i, j, h, hz => by
    rw [dF_step] at hz
    unfold stepF at hz
    by_cases h0 : i = 0 ∨ j = 0
    · rw [if_pos h0] at hz
      exact ⟨by omega, fun k hk => by omega⟩
    · rw [if_neg h0] at hz
      obtain ⟨n, rfl⟩ : ∃ k', n = k' + 1 := ⟨n - 1, by omega⟩
      have h2 := dF_lo a b _ (i - 1) j (Nat.le_refl _)
      have h3 := dF_lo a b _ i (j - 1) (Nat.le_refl _)
      have h4 := dF_lo a b _ (i - 2) (j - 2) (Nat.le_refl _)
      have h5 := dF_lo a b _ (i - 1) (j - 1) (Nat.le_refl _)
      have hc : a (i - 1) = b (j - 1) ∧ dF a b (i - 1) (j - 1) = 0 := by
        simp only [] at hz
        by_cases hc : a (i - 1) = b (j - 1)
        · rw [if_pos hc] at hz
          refine ⟨hc, ?_⟩
          split at hz <;> omega
        · rw [if_neg hc] at hz
          split at hz <;> omega
      obtain ⟨he, hk⟩ := dF_zero a b n (i - 1) (j - 1) (by omega) hc.2
      refine ⟨by omega, fun k hk' => ?_⟩
      by_cases e : k = i - 1
      · rw [e, hc.1]
        exact congrArg b (by omega)
      · exact hk k (by omega)
theorem dF_up (a b : Nat → Int) (i j : Nat) : dF a b (i + 1) j ≤ dF a b i j + 1 := by
  rw [dF_step a b (i + 1) j]
  unfold stepF
  by_cases h0 : i + 1 = 0 ∨ j = 0
  · rw [if_pos h0]
    have hj : j = 0 := by omega
    subst hj
    rw [dF_step a b i 0]
    unfold stepF
    rw [if_pos (.inr rfl)]
    omega
  · rw [if_neg h0]
    simp only [Nat.add_sub_cancel]
    split <;> split <;> omega
theorem dF_over (a b : Nat → Int) (i j : Nat) : dF a b (i + 1) (j + 1) ≤ dF a b i j + 1 := by
  rw [dF_step a b (i + 1) (j + 1)]
  unfold stepF
  rw [if_neg (by omega)]
  simp only [Nat.add_sub_cancel]
  split <;> split <;> omega
theorem dF_more (a b : Nat → Int) (i j : Nat) : dF a b i (j + 1) ≤ dF a b i j + 1 := by
  rw [dF_symm a b _ i (j + 1) (Nat.le_refl _), dF_symm a b _ i j (Nat.le_refl _)]
  exact dF_up b a j i
theorem dF_less (a b : Nat → Int) : ∀ (i j : Nat), dF a b i j ≤ dF a b i (j + 1) + 1
  | 0, j => by
    rw [dF_step a b 0 j, dF_step a b 0 (j + 1)]
    unfold stepF
    rw [if_pos (.inl rfl), if_pos (.inl rfl)]
    omega
  | i + 1, j => by
    have h1 := dF_less a b i j
    have h2 := dF_up a b i j
    have h5 : 1 < i + 1 ∧ 1 < j + 1 → dF a b (i + 1) j ≤ dF a b (i - 1) (j - 1) + 2 := fun h => by
      have e1 := dF_over a b i (j - 1)
      have e2 := dF_up a b (i - 1) (j - 1)
      rw [show j - 1 + 1 = j by omega] at e1
      rw [show i - 1 + 1 = i by omega] at e2
      omega
    rw [dF_step a b (i + 1) (j + 1)]
    unfold stepF
    rw [if_neg (by omega)]
    simp only [Nat.add_sub_cancel]
    have e3 : i + 1 - 2 = i - 1 := by omega
    have e4 : j + 1 - 2 = j - 1 := by omega
    rw [e3, e4]
    by_cases hc : 1 < i + 1 ∧ 1 < j + 1 ∧ a i = b (j - 1) ∧ a (i - 1) = b j
    · rw [if_pos hc]
      have h6 := h5 ⟨hc.1, hc.2.1⟩
      split <;> omega
    · rw [if_neg hc]
      split <;> omega
theorem dF_congr (a b b' : Nat → Int) : ∀ (k i j : Nat), i + j ≤ k → (∀ x, x < j → b x = b' x) → dF a b i j = dF a b' i j
  | k, i, j, h, hb => by
    rw [dF_step a b i j, dF_step a b' i j]
    unfold stepF
    by_cases h0 : i = 0 ∨ j = 0
    · rw [if_pos h0, if_pos h0]
    · rw [if_neg h0, if_neg h0]
      obtain ⟨k, rfl⟩ : ∃ k', k = k' + 1 := ⟨k - 1, by omega⟩
      rw [dF_congr a b b' k (i - 1) (j - 1) (by omega) (fun x hx => hb x (by omega)), dF_congr a b b' k (i - 1) j (by omega) (fun x hx => hb x (by omega)), dF_congr a b b' k i (j - 1) (by omega) (fun x hx => hb x (by omega)), dF_congr a b b' k (i - 2) (j - 2) (by omega) (fun x hx => hb x (by omega)), hb (j - 1) (by omega), hb (j - 2) (by omega)]
end Go.Proofs.YtiooiacebgojiabDoor
