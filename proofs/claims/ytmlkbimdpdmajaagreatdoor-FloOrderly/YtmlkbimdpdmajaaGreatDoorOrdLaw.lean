/- FloOrderly (5): true, whatever the three floats. -/
import Derived.Test.YtmlkbimdpdmajaaGreatDoorOrdWalk
namespace Go.Proofs.YtmlkbimdpdmajaaGreatDoor
open Go.RowKit
theorem cmpN_lt {a b : Nat} (h : a < b) : Cub.cmpN a b = -1 := by unfold Cub.cmpN; rw [if_pos h]
theorem cmpN_gt {a b : Nat} (h : b < a) : Cub.cmpN a b = 1 := by unfold Cub.cmpN; rw [if_neg (by omega), if_pos h]
theorem cmpN_same (a : Nat) : Cub.cmpN a a = 0 := by unfold Cub.cmpN; rw [if_neg (by omega), if_neg (by omega)]
theorem cmpN_sign (a b : Nat) : (a < b ∧ Cub.cmpN a b = -1) ∨ (a = b ∧ Cub.cmpN a b = 0) ∨ (b < a ∧ Cub.cmpN a b = 1) := by
  rcases Nat.lt_trichotomy a b with h | h | h
  · exact Or.inl ⟨h, cmpN_lt h⟩
  · subst h; exact Or.inr (Or.inl ⟨rfl, cmpN_same _⟩)
  · exact Or.inr (Or.inr ⟨h, cmpN_gt h⟩)
set_option maxHeartbeats 2000000 in
theorem law_orderly (a b c : Nat) (ha : a < 18446744073709551616) (hb : b < 18446744073709551616) (hc : c < 18446744073709551616) (w : World) (htab : Tab w) : Calls Tryz.prog 5 #[.float .f64 a, .float .f64 b, .float .f64 c] w fun r w' => r = .returned (.bool true) ∧ Below w.heap.size w w' := by
  have hn := next_lt a true ha
  have hm := next_lt (nextF a true) false hn
  have hac := cmpN_sign (rk a) (rk c)
  have hbc := cmpN_sign (rk b) (rk c)
  have hbn := cmpN_sign (rk b) (rk (nextF a true))
  have hna := cmpN_sign (rk (nextF a true)) (rk a)
  have hup := next_up a ha
  have hs := same_rk a b ha hb
  have hv : ¬ Cub.cmpN (rk (nextF a true)) (rk a) < 0 := by
    rcases hup with ⟨e, _⟩ | ⟨_, _, e, _⟩
    · rw [e, cmpN_same]; omega
    · omega
  have hu : rk a < rk b → ¬ Cub.cmpN (rk b) (rk (nextF a true)) < 0 := by
    intro h
    rcases hup with ⟨e, _⟩ | ⟨_, _, e, _⟩
    · rw [e, cmpN_gt h]; omega
    · omega
  have hsm : sameB a (nextF (nextF a true) false) = true ∨ (a = 9218868437227405312 ∧ sameB a (nextF (nextF a true) false) = false) := by
    rcases hup with ⟨e, h | h⟩ | ⟨_, _, _, e⟩
    · left
      rw [e]
      have e2 : nextF a false = a := by unfold nextF; simp [h]
      rw [e2]; unfold sameB; simp
    · right
      refine ⟨h, ?_⟩
      rw [h]
      decide +kernel
    · left
      rw [e]; unfold sameB; simp
  have HK := known_ok w htab
  have HKd := known_ok w.drew htab
  have Hbc : ∀ W, Calls Tryz.prog 17 #[.float .f64 b, .float .f64 c] W fun e w' => e = .returned (.int .i64 (Cub.cmpN (rk b) (rk c))) ∧ w' = W := order_any b c hb hc
  have Hac : ∀ W, Calls Tryz.prog 17 #[.float .f64 a, .float .f64 c] W fun e w' => e = .returned (.int .i64 (Cub.cmpN (rk a) (rk c))) ∧ w' = W := order_any a c ha hc
  have Hbn : ∀ W, Calls Tryz.prog 17 #[.float .f64 b, .float .f64 (nextF a true)] W fun e w' => e = .returned (.int .i64 (Cub.cmpN (rk b) (rk (nextF a true)))) ∧ w' = W := order_any b _ hb hn
  have Hna : ∀ W, Calls Tryz.prog 17 #[.float .f64 (nextF a true), .float .f64 a] W fun e w' => e = .returned (.int .i64 (Cub.cmpN (rk (nextF a true)) (rk a))) ∧ w' = W := order_any _ a hn ha
  have Hn := next_any a true ha
  have Hm := next_any (nextF a true) false hn
  have Hsm := same_any a (nextF (nextF a true) false)
  have Hs := same_any a b
  have Hab := order_any a b ha hb
  have Hba := order_any b a hb ha
  rw [hs] at Hs
  generalize nextF (nextF a true) false = m at *
  generalize nextF a true = n at *
  rcases cmpN_sign (rk a) (rk b) with ⟨hx, e⟩ | ⟨hx, e⟩ | ⟨hx, e⟩
  · rw [e] at Hab
    rw [cmpN_gt hx] at Hba
    rw [show decide (rk a = rk b) = false by simp; omega] at Hs
    have hu' := hu hx
    by_cases y1 : Cub.cmpN (rk b) (rk c) ≤ 0
    · by_cases y2 : Cub.cmpN (rk b) (rk c) < 0
      · have z1 : ¬ 0 < Cub.cmpN (rk a) (rk c) := by omega
        have z2 : ¬ 0 ≤ Cub.cmpN (rk a) (rk c) := by omega
        rcases hsm with h | ⟨rfl, h⟩ <;> rw [h] at Hsm
        · exact orderly_C2 a b c n m _ _ _ _ y1 y2 z1 z2 hu' hv w Hab Hbc Hac Hba Hbn Hna Hs Hn Hm Hsm HK
        · exact orderly_C2i b c n m _ _ _ _ y1 y2 z1 z2 hu' hv w Hab Hbc Hac Hba Hbn Hna Hs Hn Hm Hsm HKd
      · have z1 : ¬ 0 < Cub.cmpN (rk a) (rk c) := by omega
        rcases hsm with h | ⟨rfl, h⟩ <;> rw [h] at Hsm
        · exact orderly_C3 a b c n m _ _ _ _ y1 y2 z1 hu' hv w Hab Hbc Hac Hba Hbn Hna Hs Hn Hm Hsm HK
        · exact orderly_C3i b c n m _ _ _ _ y1 y2 z1 hu' hv w Hab Hbc Hac Hba Hbn Hna Hs Hn Hm Hsm HKd
    · rcases hsm with h | ⟨rfl, h⟩ <;> rw [h] at Hsm
      · exact orderly_C1 a b c n m _ _ _ _ y1 hu' hv w Hab Hbc Hac Hba Hbn Hna Hs Hn Hm Hsm HK
      · exact orderly_C1i b c n m _ _ _ _ y1 hu' hv w Hab Hbc Hac Hba Hbn Hna Hs Hn Hm Hsm HKd
  · rw [e] at Hab
    rw [show Cub.cmpN (rk b) (rk a) = 0 by rw [hx]; exact cmpN_same _] at Hba
    rw [show decide (rk a = rk b) = true by simp; omega] at Hs
    by_cases y1 : Cub.cmpN (rk b) (rk c) ≤ 0
    · have z1 : ¬ 0 < Cub.cmpN (rk a) (rk c) := by omega
      rcases hsm with h | ⟨rfl, h⟩ <;> rw [h] at Hsm
      · exact orderly_B2 a b c n m _ _ _ _ y1 z1 hv w Hab Hbc Hac Hba Hbn Hna Hs Hn Hm Hsm HK
      · exact orderly_B2i b c n m _ _ _ _ y1 z1 hv w Hab Hbc Hac Hba Hbn Hna Hs Hn Hm Hsm HKd
    · rcases hsm with h | ⟨rfl, h⟩ <;> rw [h] at Hsm
      · exact orderly_B1 a b c n m _ _ _ _ y1 hv w Hab Hbc Hac Hba Hbn Hna Hs Hn Hm Hsm HK
      · exact orderly_B1i b c n m _ _ _ _ y1 hv w Hab Hbc Hac Hba Hbn Hna Hs Hn Hm Hsm HKd
  · rw [e] at Hab
    rw [cmpN_lt hx] at Hba
    rw [show decide (rk a = rk b) = false by simp; omega] at Hs
    rcases hsm with h | ⟨rfl, h⟩ <;> rw [h] at Hsm
    · exact orderly_A a b c n m _ _ _ _ hv w Hab Hbc Hac Hba Hbn Hna Hs Hn Hm Hsm HK
    · exact orderly_Ai b c n m _ _ _ _ hv w Hab Hbc Hac Hba Hbn Hna Hs Hn Hm Hsm HKd
end Go.Proofs.YtmlkbimdpdmajaaGreatDoor
